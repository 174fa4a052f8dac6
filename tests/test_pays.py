"""pays: cases worked out by hand."""

import unittest
from fractions import Fraction

from tests.helper import CLEAR, HALF, NONE, ONE, ask, begins, last, owes, own, pays, read_clear, read_for_each

MOST = 1000000


class Pays(unittest.TestCase):
    def check(self, calls, n, i, expected):
        self.assertEqual(read_for_each(last(*calls, pays(i)), n), expected)


class PaysAllItOwes(Pays):
    def test_one_creditor(self):
        self.check([begins(2, NONE, NONE), own(0, 5), owes(0, 1, 3)], 2, 0, [0, 3])

    def test_several_creditors(self):
        self.check([begins(4, NONE, NONE), own(1, 20), owes(1, 0, 4), owes(1, 3, 8)], 4, 1, [4, 0, 0, 8])

    def test_means_of_just_what_is_owed(self):
        self.check([begins(3, NONE, NONE), own(0, 3), owes(0, 1, 1), owes(0, 2, 2)], 3, 0, [0, 1, 2])

    def test_a_ring_with_nothing_of_its_own_pays_by_the_greatest_payments(self):
        ring = [owes(i, (i + 1) % 8, 10) for i in range(8)]
        for i in range(8):
            with self.subTest(i=i):
                self.check([begins(8, HALF, HALF), *ring], 8, i, [10 if j == (i + 1) % 8 else 0 for j in range(8)])


class Falls(Pays):
    def test_each_creditor_gets_its_part(self):
        for kept_own, part in ((NONE, 0), ((1, 3), 2), (HALF, 3), (ONE, 6)):
            with self.subTest(kept_own=kept_own):
                calls = [begins(4, kept_own, NONE), own(0, 6), owes(0, 1, 4), owes(0, 3, 8)]
                self.check(calls, 4, 0, [0, Fraction(part, 3), 0, Fraction(2 * part, 3)])

    def test_debts_that_are_fractions(self):
        calls = [begins(3), own(0, 1, 7), owes(0, 1, 1, 3), owes(0, 2, 1, 2)]
        self.check(calls, 3, 0, [0, Fraction(2, 35), Fraction(3, 35)])

    def test_out_of_its_own_and_what_it_is_paid(self):
        # it keeps 1/4 of its 2 and 2/3 of the 6 it is paid
        calls = [begins(4, (1, 4), (2, 3)), own(0, 6), owes(0, 1, 6), own(1, 2), owes(1, 2, 9), owes(1, 3, 1)]
        self.check(calls, 4, 1, [0, 0, Fraction(81, 20), Fraction(9, 20)])

    def test_in_a_ring(self):
        # p0 = 3 + p1 and p1 = p0 / 2
        calls = [begins(3), own(0, 3), owes(0, 1, 10), owes(0, 2, 10), owes(1, 0, 10)]
        self.check(calls, 3, 0, [0, 3, 3])
        self.check(calls, 3, 1, [3, 0, 0])

    def test_with_nothing_it_pays_nothing(self):
        self.assertEqual(last(begins(3), owes(0, 1, 4), owes(0, 2, 8), pays(0)), [3, 0, 1, 0, 1, 0, 1])


class OwesNothing(Pays):
    def test_0_and_1_for_each(self):
        for n in range(1, 9):
            for i in range(n):
                with self.subTest(n=n, i=i):
                    self.assertEqual(last(begins(n), own(i, 7), pays(i)), [n] + [0, 1] * n)

    def test_also_if_it_is_owed(self):
        self.assertEqual(last(begins(2, HALF, HALF), own(0, 4), owes(0, 1, 10), pays(1)), [2, 0, 1, 0, 1])


class AllOweAll(Pays):
    def house(self, kept):
        debts = [owes(i, j, 1 + (i + j) % 4) for i in range(6) for j in range(6) if i != j]
        return [begins(6, kept, kept), own(0, 1), own(3, 1, 2), *debts]

    def test_nothing_to_itself(self):
        for kept in (NONE, HALF, ONE):
            for i in range(6):
                with self.subTest(kept=kept, i=i):
                    told = read_for_each(last(*self.house(kept), pays(i)), 6)
                    self.assertEqual(told[i], 0)

    def test_together_it_is_what_clear_tells(self):
        for kept in (NONE, HALF, ONE):
            told = ask(*self.house(kept), CLEAR, *[pays(i) for i in range(6)])
            paid = read_clear(told[-7], 6)[2]
            with self.subTest(kept=kept):
                self.assertEqual([sum(read_for_each(row, 6)) for row in told[-6:]], paid)


class Fractions(Pays):
    def test_lowest_terms(self):
        self.assertEqual(last(begins(2), own(0, 6, 4), owes(0, 1, 6, 8), pays(0)), [2, 0, 1, 3, 4])
        self.assertEqual(last(begins(2, (2, 4), NONE), own(0, 6, 4), owes(0, 1, 30, 10), pays(0)), [2, 0, 1, 3, 4])

    def test_large_numbers(self):
        calls = [begins(3, (999999, MOST), NONE), own(0, 999983, 999979), owes(0, 1, MOST, 999961), owes(0, 2, 7)]
        paid = Fraction(999999, MOST) * Fraction(999983, 999979)
        debt = Fraction(MOST, 999961)
        self.check(calls, 3, 0, [0, paid * debt / (debt + 7), paid * 7 / (debt + 7)])


if __name__ == "__main__":
    unittest.main()
