"""least: cases worked out by hand."""

import unittest
from fractions import Fraction

from tests.helper import CLEAR, HALF, LEAST, NONE, ONE, ask, begins, last, owes, own, read_clear, read_least

MOST = 1000000


class Least(unittest.TestCase):
    def check(self, calls, n, falls, pays, worth):
        self.assertEqual(read_least(last(*calls, LEAST), n), (falls, pays, worth))


class Refused(Least):
    def test_kept_of_paid_is_1(self):
        for one in ((1, 1), (7, 7), (MOST, MOST)):
            for kept_own in (NONE, HALF, ONE):
                with self.subTest(one=one, kept_own=kept_own):
                    self.assertEqual(last(begins(2, kept_own, one), owes(0, 1, 1), LEAST), [-6])

    def test_just_below_1_is_not_refused(self):
        self.assertEqual(last(begins(1, ONE, (999999, MOST)), LEAST), [0, 0, 1, 0, 1])

    def test_kept_of_own_of_1_is_not_refused(self):
        self.assertEqual(last(begins(1, ONE, NONE), LEAST), [0, 0, 1, 0, 1])

    def test_all_is_as_it_was(self):
        calls = [begins(2), own(0, 4), owes(0, 1, 10), owes(1, 0, 1)]
        told = ask(*calls, CLEAR, LEAST, CLEAR)
        self.assertEqual(told[-2], [-6])
        self.assertEqual(told[-1], told[-3])


class AsTheGreatest(Least):
    def alike(self, *calls):
        told = ask(*calls, CLEAR, LEAST)
        n = told[0][0]
        greatest = read_clear(told[-2], n)
        self.assertEqual(read_least(told[-1], n), (greatest[0], greatest[2], greatest[3]))

    def test_nobody_falls(self):
        self.check([begins(2, NONE, NONE), own(0, 5), owes(0, 1, 3)], 2, 0, [3, 0], [2, 3])

    def test_means_of_just_what_is_owed(self):
        self.check([begins(2, NONE, NONE), own(0, 3), owes(0, 1, 3)], 2, 0, [3, 0], [0, 3])

    def test_one_falls_alone(self):
        self.check([begins(2, HALF, NONE), own(0, 6), owes(0, 1, 10)], 2, 1, [3, 0], [0, 3])

    def test_a_chain(self):
        self.alike(begins(8, ONE, HALF), own(0, 5), *[owes(i, i + 1, 10) for i in range(7)])
        self.alike(begins(8, HALF, HALF), own(0, 10), *[owes(i, i + 1, 10) for i in range(7)])

    def test_those_with_enough_save_one_another_in_turn(self):
        self.alike(begins(8, NONE, NONE), own(0, 10), *[owes(i, (i + 1) % 8, 10) for i in range(8)])

    def test_several_creditors(self):
        self.alike(begins(3, HALF, (1, 3)), own(0, 6), owes(0, 1, 4), owes(0, 2, 8), owes(1, 2, 3), own(1, 1))


class LessThanTheGreatest(Least):
    def test_a_ring_with_nothing_pays_nothing(self):
        ring = [owes(i, (i + 1) % 8, 10) for i in range(8)]
        for kept in (NONE, HALF, (999999, MOST)):
            with self.subTest(kept=kept):
                self.check([begins(8, ONE, kept), *ring], 8, 8, [0] * 8, [0] * 8)

    def test_a_ring_with_something(self):
        # p0 = 3 + p1 / 2 and p1 = p0 / 2
        calls = [begins(2, ONE, HALF), own(0, 3), owes(0, 1, 10), owes(1, 0, 10)]
        self.check(calls, 2, 2, [4, 2], [0, 0])
        self.assertEqual(read_clear(last(*calls, CLEAR), 2), (0, [0, 0], [10, 10], [3, 0]))

    def test_one_of_a_ring_can_pay(self):
        # party 1 has its 3 and needs no more; party 0 falls by the least payments though not by the greatest
        calls = [begins(3, HALF, HALF), own(0, 1), own(1, 3), owes(0, 2, 6), owes(2, 0, 5), owes(1, 0, 3), own(2, 0)]
        # p1 = 3; p0 = 1/2 + (3 + p2) / 2 and p2 = p0 / 2
        self.check(calls, 3, 2, [Fraction(8, 3), 3, Fraction(4, 3)], [0, 0, 0])
        self.assertEqual(read_clear(last(*calls, CLEAR), 3), (0, [0, 0, 0], [6, 3, 5], [3, 0, 1]))

    def test_a_ring_beside_a_chain(self):
        calls = [begins(4, ONE, HALF), owes(0, 1, 2), owes(1, 0, 2), own(2, 1), owes(2, 3, 4)]
        self.check(calls, 4, 3, [0, 0, 1, 0], [0, 0, 0, 1])


class Edges(Least):
    def test_nobody_pays_more_than_it_owes(self):
        # party 0 keeps far more than it owes; party 1 is paid 1 all the same
        calls = [begins(3, ONE, HALF), own(0, 1000), owes(0, 1, 1), owes(1, 2, 500)]
        self.check(calls, 3, 1, [1, Fraction(1, 2), 0], [999, 0, Fraction(1, 2)])

    def test_nobody_pays_more_than_it_owes_out_of_what_it_is_paid(self):
        calls = [begins(4, ONE, HALF), own(0, 1000), owes(0, 1, 1000), owes(1, 2, 1), owes(2, 3, 400), owes(3, 2, 400)]
        # p2 = (1 + p3) / 2 and p3 = p2 / 2
        self.check(calls, 4, 2, [1000, 1, Fraction(2, 3), Fraction(1, 3)], [0, 999, 0, 0])

    def test_what_adds_up_without_end_to_just_what_is_owed_is_enough(self):
        # were party 0 fallen, p0 = 3 + p1 / 2 = 4 and p1 = 2, so its means would be just the 5 it owes: it can pay
        calls = [begins(2, ONE, HALF), own(0, 3), owes(0, 1, 5), owes(1, 0, 6)]
        self.check(calls, 2, 1, [5, Fraction(5, 2)], [Fraction(1, 2), 0])

    def test_just_more_owed_is_too_much(self):
        calls = [begins(2, ONE, HALF), own(0, 3), owes(0, 1, 500001, 100000), owes(1, 0, 6)]
        self.check(calls, 2, 2, [4, 2], [0, 0])

    def test_nothing_is_kept(self):
        calls = [begins(3, NONE, NONE), own(0, 4), owes(0, 1, 5), owes(1, 0, 1), owes(1, 2, 4), own(1, 5)]
        # party 1 has its 5; then party 0 has 4 and the 1 it is paid
        self.check(calls, 3, 0, [5, 5, 0], [0, 5, 4])

    def test_one_that_owes_nothing_does_not_fall(self):
        self.check([begins(2, ONE, HALF), owes(0, 1, 1)], 2, 1, [0, 0], [0, 0])

    def test_least_changes_nothing(self):
        calls = [begins(2, ONE, HALF), own(0, 3), owes(0, 1, 10), owes(1, 0, 10)]
        told = ask(*calls, CLEAR, LEAST, CLEAR, LEAST)
        self.assertEqual(told[-2:], told[-4:-2])

    def test_lowest_terms(self):
        told = last(begins(2, (2, 4), (3, 9)), own(0, 6, 4), owes(0, 1, 30, 10), LEAST)
        self.assertEqual(told, [1, 3, 4, 0, 1, 0, 1, 3, 4])

    def test_large_numbers(self):
        kept = Fraction(999979, MOST)
        calls = [begins(2, (999983, MOST), (999979, MOST)), own(0, 7, 999961), owes(0, 1, MOST), owes(1, 0, MOST)]
        first = Fraction(999983, MOST) * Fraction(7, 999961) / (1 - kept * kept)
        self.check(calls, 2, 2, [first, kept * first], [0, 0])


if __name__ == "__main__":
    unittest.main()
