"""lost: cases worked out by hand."""

import unittest
from fractions import Fraction

from tests.helper import HALF, LOST, NONE, ONE, begins, last, owes, own, read_lost

MOST = 1000000
KEPT = (NONE, (1, 3), HALF, ONE)


class Lost(unittest.TestCase):
    def check(self, calls, in_falling, unpaid):
        self.assertEqual(read_lost(last(*calls, LOST)), (in_falling, unpaid))


class NobodyFalls(Lost):
    def test_0_and_1_twice(self):
        for n in range(1, 9):
            with self.subTest(n=n):
                self.assertEqual(last(begins(n, HALF, HALF), own(n - 1, 5), LOST), [0, 1, 0, 1])

    def test_means_of_just_what_is_owed(self):
        self.assertEqual(last(begins(2, NONE, NONE), own(0, 3), owes(0, 1, 3), LOST), [0, 1, 0, 1])

    def test_a_ring_with_nothing_of_its_own(self):
        ring = [owes(i, (i + 1) % 8, 10) for i in range(8)]
        self.assertEqual(last(begins(8, NONE, NONE), *ring, LOST), [0, 1, 0, 1])


class AllIsKept(Lost):
    def test_nothing_is_lost_in_falling_yet_something_is_not_paid(self):
        self.check([begins(2), own(0, 6), owes(0, 1, 10)], 0, 4)

    def test_a_chain(self):
        chain = [own(0, 5)] + [owes(i, i + 1, 10) for i in range(7)]
        self.check([begins(8), *chain], 0, 35)

    def test_a_ring(self):
        # p0 = 3 + p1 and p1 = p0 / 2
        self.check([begins(3), own(0, 3), owes(0, 1, 10), owes(0, 2, 10), owes(1, 0, 10)], 0, 21)

    def test_with_nothing(self):
        self.check([begins(2), owes(0, 1, 10)], 0, 10)


class NotAllIsKept(Lost):
    def test_of_own(self):
        for kept in KEPT:
            with self.subTest(kept=kept):
                paid = 6 * Fraction(*kept)
                self.check([begins(2, kept, NONE), own(0, 6), owes(0, 1, 10)], 6 - paid, 10 - paid)

    def test_of_paid(self):
        for kept in KEPT:
            with self.subTest(kept=kept):
                paid = 6 * Fraction(*kept)
                self.check([begins(3, NONE, kept), own(0, 6), owes(0, 1, 6), own(1, 3), owes(1, 2, 10)],
                           9 - paid, 10 - paid)

    def test_of_both(self):
        calls = [begins(3, (1, 4), (2, 3)), own(0, 6), owes(0, 1, 6), own(1, 2), owes(1, 2, 10)]
        self.check(calls, Fraction(7, 2), Fraction(11, 2))

    def test_of_all_that_fall_together(self):
        # party 0 has 6 and pays 2; party 1 has 1 and 2 and pays 4/3
        calls = [begins(3, (1, 3), HALF), own(0, 6), owes(0, 1, 10), own(1, 1), owes(1, 2, 9)]
        self.check(calls, 4 + Fraction(5, 3), 8 + Fraction(23, 3))

    def test_of_a_ring(self):
        # p0 = 1 + p1 / 2 = 4/3 and p1 = p0 / 2 = 2/3; the means are 8/3 and 4/3
        calls = [begins(2, HALF, HALF), own(0, 2), owes(0, 1, 10), owes(1, 0, 6)]
        self.check(calls, 2, 14)

    def test_what_those_have_that_can_pay_is_not_counted(self):
        calls = [begins(4, HALF, HALF), own(0, 6), owes(0, 1, 10), own(2, 100), owes(2, 3, 50), owes(1, 2, 3)]
        self.check(calls, 3, 7)

    def test_all_that_one_has_is_lost_as_it_lacks_a_little(self):
        self.check([begins(2, NONE, NONE), own(0, 999999, MOST), owes(0, 1, 1)], Fraction(999999, MOST), 1)

    def test_a_chain(self):
        chain = [own(0, 8)] + [owes(i, i + 1, 10) for i in range(4)]
        # they pay 4, 2, 1 and 1/2, and lose as much as they pay
        self.check([begins(5, HALF, HALF), *chain], Fraction(15, 2), 40 - Fraction(15, 2))


class Fractions(Lost):
    def test_lowest_terms(self):
        self.assertEqual(last(begins(2, (2, 4), NONE), own(0, 6, 4), owes(0, 1, 30, 10), LOST), [3, 4, 9, 4])

    def test_large_numbers(self):
        calls = [begins(2, (999999, MOST), NONE), own(0, 999983, 999979), owes(0, 1, MOST, 7)]
        means = Fraction(999983, 999979)
        self.check(calls, means / MOST, Fraction(MOST, 7) - means * Fraction(999999, MOST))


if __name__ == "__main__":
    unittest.main()
