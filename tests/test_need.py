"""need and needs: cases worked out by hand."""

import unittest
from fractions import Fraction

from tests.helper import (CLEAR, HALF, NEEDS, NONE, ONE, ask, begins, last, need, owes, own, read_clear, read_for_each,
                          read_need)

MOST = 1000000
KEPT = (NONE, (1, 3), HALF, ONE)


class Need(unittest.TestCase):
    def check(self, calls, i, expected):
        self.assertEqual(read_need(last(*calls, need(i))), expected)


class DoesNotFall(Need):
    def test_0_and_1(self):
        calls = [begins(2, HALF, HALF), own(0, 5), owes(0, 1, 3)]
        self.assertEqual(last(*calls, need(0)), [0, 1])
        self.assertEqual(last(*calls, need(1)), [0, 1])

    def test_means_of_just_what_is_owed(self):
        self.assertEqual(last(begins(2, NONE, NONE), own(0, 3), owes(0, 1, 3), need(0)), [0, 1])

    def test_one_that_owes_nothing_and_has_nothing(self):
        self.assertEqual(last(begins(2), owes(0, 1, 3), need(1)), [0, 1])

    def test_a_ring_with_nothing_of_its_own(self):
        ring = [owes(i, (i + 1) % 8, 10) for i in range(8)]
        for i in range(8):
            with self.subTest(i=i):
                self.assertEqual(last(begins(8, NONE, NONE), *ring, need(i)), [0, 1])


class FallsAlone(Need):
    def test_what_it_lacks_whatever_is_kept(self):
        for kept_own in KEPT:
            for kept_paid in KEPT:
                with self.subTest(kept_own=kept_own, kept_paid=kept_paid):
                    self.check([begins(2, kept_own, kept_paid), own(0, 6), owes(0, 1, 10)], 0, 4)

    def test_it_is_paid_too(self):
        calls = [begins(3, NONE, NONE), own(0, 6), owes(0, 1, 6), own(1, 3), owes(1, 2, 10)]
        self.check(calls, 1, 1)

    def test_with_nothing(self):
        self.check([begins(2), owes(0, 1, 10, 3)], 0, Fraction(10, 3))


class OthersFellThroughIt(Need):
    def test_they_do_not_fall_then_and_pay_all(self):
        # now p0 = 1 + p1 / 2 = 4/3, so it lacks 22/3; but once it pays its 10, it is paid the 6
        calls = [begins(2, HALF, HALF), own(0, 2), owes(0, 1, 10), owes(1, 0, 6)]
        told = read_clear(last(*calls, CLEAR), 2)
        self.assertEqual(told[1:3], ([1, 2], [Fraction(4, 3), Fraction(2, 3)]))
        self.check(calls, 0, 2)

    def test_whoever_fell_through_another_needs_just_what_it_lacks(self):
        # party 1 saved, party 0 still has 8 of the 10 it owes; so it pays 1 + 3, and party 1 lacks 2 of its 6
        calls = [begins(2, HALF, HALF), own(0, 2), owes(0, 1, 10), owes(1, 0, 6)]
        self.check(calls, 1, 2)

    def test_through_a_long_ring(self):
        ring = [owes(i, (i + 1) % 8, 10) for i in range(8)]
        calls = [begins(8, HALF, HALF), *ring, owes(0, 4, 1, 7)]
        told = read_clear(last(*calls, CLEAR), 8)
        self.assertEqual((told[0], told[2]), (8, [0] * 8))
        self.check(calls, 0, Fraction(1, 7))

    def test_it_falls_through_others_that_fall_still(self):
        calls = [begins(3, HALF, HALF), own(0, 4), owes(0, 1, 10), own(1, 1), owes(1, 2, 9)]
        # party 0 pays 2 in any case, so party 1 lacks 6; party 0 lacks 6 by itself
        self.check(calls, 1, 6)
        self.check(calls, 0, 6)

    def test_some_fall_still_but_pay_more(self):
        # now p0 = p1 / 2 = 1/3 and p1 = 2/3; were party 0 saved, party 1 would fall, and keep half of its 11
        calls = [begins(2, HALF, HALF), own(1, 1), owes(0, 1, 10), owes(1, 0, 20)]
        told = read_clear(last(*calls, CLEAR), 2)
        self.assertEqual(told[1:3], ([2, 1], [Fraction(1, 3), Fraction(2, 3)]))
        self.check(calls, 0, Fraction(9, 2))

    def test_whatever_is_kept(self):
        # were party 0 saved, party 1 would have its 1 and the 10, not the 20 it owes
        house = [own(1, 1), owes(0, 1, 10), owes(0, 2, 2), owes(1, 0, 20)]
        for kept_own in KEPT:
            for kept_paid in KEPT:
                with self.subTest(kept_own=kept_own, kept_paid=kept_paid):
                    expected = 12 - Fraction(*kept_own) - 10 * Fraction(*kept_paid)
                    self.check([begins(3, kept_own, kept_paid), *house], 0, expected)

    def test_one_stands_at_just_what_it_owes_then(self):
        # party 0 saved, party 1 has just its 9, and pays party 0 all of the 5 it owes it
        calls = [begins(3, NONE, NONE), own(0, 3), owes(0, 1, 9), owes(1, 0, 5), owes(1, 2, 4)]
        self.check(calls, 0, 1)
        # with a little more to pay it falls all the same, and pays nothing
        self.check([*calls, owes(1, 2, 400001, 100000)], 0, 6)


class NeedInFractions(Need):
    def test_lowest_terms(self):
        self.assertEqual(last(begins(2), own(0, 6, 4), owes(0, 1, 9, 4), need(0)), [3, 4])
        self.assertEqual(last(begins(2), own(0, 6, 4), owes(0, 1, 8, 2), need(0)), [5, 2])
        self.assertEqual(last(begins(2), own(0, 2, 4), owes(0, 1, 9, 6), need(0)), [1, 1])

    def test_large_numbers(self):
        self.check([begins(2), own(0, 999983, 999979), owes(0, 1, MOST)], 0, MOST - Fraction(999983, 999979))
        self.check([begins(2), own(0, MOST, 999999), owes(0, 1, 999999, 999998)], 0, Fraction(1, 999998 * 999999))

    def test_what_it_needs_is_enough_and_a_little_less_is_not(self):
        calls = [begins(2, HALF, HALF), own(1, 1), owes(0, 1, 10), owes(1, 0, 20)]
        self.assertEqual(read_clear(last(*calls, own(0, 9, 2), CLEAR), 2)[1], [0, 1])
        self.assertEqual(read_clear(last(*calls, own(0, 449999, 100000), CLEAR), 2)[1], [2, 1])


class Needs(unittest.TestCase):
    def check(self, calls, n, expected):
        self.assertEqual(read_for_each(last(*calls, NEEDS), n), expected)

    def test_nobody_falls(self):
        for n in range(1, 9):
            with self.subTest(n=n):
                self.assertEqual(last(begins(n), NEEDS), [n] + [0, 1] * n)
        self.assertEqual(last(begins(2, NONE, NONE), own(0, 3), owes(0, 1, 3), NEEDS), [2, 0, 1, 0, 1])
        ring = [owes(i, (i + 1) % 8, 10) for i in range(8)]
        self.assertEqual(last(begins(8, NONE, NONE), *ring, NEEDS), [8] + [0, 1] * 8)

    def test_one_falls(self):
        self.check([begins(2), own(0, 6), owes(0, 1, 10)], 2, [4, 0])

    def test_those_that_fall_only_because_others_did_need_nothing(self):
        chain = [own(0, 5)] + [owes(i, i + 1, 10) for i in range(7)]
        for kept in KEPT:
            with self.subTest(kept=kept):
                calls = [begins(8, kept, kept), *chain]
                self.assertEqual(read_clear(last(*calls, CLEAR), 8)[0], 7)
                self.check(calls, 8, [5] + [0] * 7)

    def test_several_fall(self):
        calls = [begins(4, HALF, HALF), own(0, 4), owes(0, 1, 10), owes(1, 2, 21, 2), own(3, 1), owes(3, 2, 7),
                 owes(2, 3, 5)]
        # party 2 has the 1 and 3 that parties 1 and 3 pay it, not its 5; if all are paid, it has 35/2
        self.assertEqual(read_clear(last(*calls, CLEAR), 4)[1], [1, 1, 2, 1])
        self.check(calls, 4, [6, Fraction(1, 2), 0, 1])

    def test_what_is_spare_at_one_helps_no_other(self):
        self.check([begins(3), own(2, 100), own(0, 1), owes(0, 1, 3), owes(1, 2, 3)], 3, [2, 0, 0])

    def test_it_is_less_than_what_each_alone_would_need(self):
        calls = [begins(3, HALF, HALF), own(0, 4), owes(0, 1, 10), own(1, 1), owes(1, 2, 12)]
        told = ask(*calls, need(0), need(1), NEEDS)
        self.assertEqual([read_need(told[-3]), read_need(told[-2])], [6, 9])
        self.assertEqual(read_for_each(told[-1], 3), [6, 1, 0])

    def test_with_so_much_more_nobody_falls(self):
        calls = [begins(4, NONE, NONE), own(0, 4), owes(0, 1, 10), owes(1, 2, 21, 2), own(3, 1), owes(3, 2, 7),
                 owes(2, 3, 5)]
        more = [own(0, 10), own(1, 1, 2), own(3, 2)]
        self.assertEqual(last(*calls, *more, CLEAR)[0], 0)
        for less in (own(0, 999999, 100000), own(1, 499999, MOST), own(3, 199999, 100000)):
            with self.subTest(less=less):
                self.assertGreater(last(*calls, *more, less, CLEAR)[0], 0)

    def test_lowest_terms(self):
        self.assertEqual(last(begins(2), own(0, 6, 4), owes(0, 1, 9, 4), NEEDS), [2, 3, 4, 0, 1])

    def test_large_numbers(self):
        calls = [begins(3), own(0, 999983, 999979), owes(0, 1, MOST), own(1, 1, 999961), owes(1, 2, MOST, 7),
                 owes(1, 0, MOST)]
        self.check(calls, 3, [0, Fraction(MOST, 7) - Fraction(1, 999961), 0])
        self.check([begins(2), own(0, MOST, 999999), owes(0, 1, 999999, 999998)], 2,
                   [Fraction(1, 999998 * 999999), 0])


if __name__ == "__main__":
    unittest.main()
