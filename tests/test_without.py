"""without: cases worked out by hand."""

import unittest

from tests.helper import CLEAR, HALF, LEAST, NONE, ONE, ask, begins, last, owes, own, read_without, without

MOST = 1000000
KEPT = (NONE, (1, 3), HALF, ONE)


class Without(unittest.TestCase):
    def check(self, calls, i, expected):
        self.assertEqual(read_without(last(*calls, without(i))), expected)


class NobodyMoreFalls(Without):
    def test_nobody_owes(self):
        for n in range(1, 9):
            for i in range(n):
                with self.subTest(n=n, i=i):
                    self.assertEqual(last(begins(n), own(i, 3), without(i)), [0])

    def test_nobody_hangs_on_it(self):
        calls = [begins(3, NONE, NONE), own(0, 10), owes(0, 1, 10), own(1, 4), owes(1, 2, 4), own(2, 3)]
        for i in range(3):
            with self.subTest(i=i):
                self.check(calls, i, [])

    def test_one_stands_at_just_what_it_owes(self):
        self.check([begins(4, NONE, NONE), own(0, 6), owes(0, 1, 6), own(1, 4), owes(1, 2, 4)], 0, [])

    def test_a_ring_beside_it(self):
        calls = [begins(4, NONE, NONE), own(0, 5), owes(0, 1, 5), owes(1, 2, 7), owes(2, 3, 7), owes(3, 1, 7)]
        self.check(calls, 0, [])

    def test_it_pays_nobody_now_either(self):
        self.check([begins(3), owes(0, 1, 5), own(2, 3), owes(1, 2, 4), owes(2, 1, 4)], 0, [])


class OthersFall(Without):
    def test_one(self):
        self.check([begins(3), own(0, 10), owes(0, 1, 10), owes(1, 2, 10)], 0, [1])

    def test_others_because_of_it(self):
        chain = [owes(i, i + 1, 10) for i in range(7)]
        for kept in KEPT:
            for i in range(8):
                with self.subTest(kept=kept, i=i):
                    self.check([begins(8, kept, kept), own(0, 10), *chain], i, list(range(i + 1, 7)))

    def test_they_come_rising_though_they_fall_against_the_numbering(self):
        chain = [owes(i, i - 1, 10) for i in range(1, 8)]
        self.check([begins(8), own(7, 10), *chain], 7, [1, 2, 3, 4, 5, 6])

    def test_a_little_less_than_it_owes(self):
        self.check([begins(3, NONE, NONE), own(0, 6), owes(0, 1, 6), own(1, 399999, 100000), owes(1, 2, 4)], 0, [1])

    def test_whether_others_fall_hangs_on_what_is_kept_of_own(self):
        # party 1 then has 4 of the 10 it owes party 2, which owes 4
        house = [own(0, 6), owes(0, 1, 6), own(1, 4), owes(1, 2, 10), owes(2, 3, 4)]
        self.check([begins(4, ONE, NONE), *house], 0, [1])
        self.check([begins(4, (999999, MOST), NONE), *house], 0, [1, 2])

    def test_whether_others_fall_hangs_on_what_is_kept_of_paid(self):
        # party 2 is paid 4 by party 4 and nothing by party 0, and owes party 1 10, which owes 4
        house = [own(0, 6), owes(0, 2, 6), own(4, 4), owes(4, 2, 4), owes(2, 1, 10), owes(1, 3, 4)]
        self.check([begins(5, NONE, ONE), *house], 0, [2])
        self.check([begins(5, ONE, (999999, MOST)), *house], 0, [1, 2])

    def test_what_it_pays_although_it_falls(self):
        # party 0 falls and pays 3; with these party 1 stands, and without it falls
        calls = [begins(3, HALF, NONE), own(0, 6), owes(0, 1, 10), own(1, 1), owes(1, 2, 4)]
        self.assertEqual(last(*calls, CLEAR)[:4], [1, 1, 0, 0])
        self.check(calls, 0, [1])

    def test_what_it_only_passes_on(self):
        calls = [begins(4), own(3, 5), owes(3, 0, 5), owes(0, 1, 5), owes(1, 2, 5)]
        self.check(calls, 0, [1])


class NotCounted(Without):
    def test_the_party_itself(self):
        # party 0 would have nothing and owe 5, and nobody else falls
        self.check([begins(2), own(0, 5), owes(0, 1, 5)], 0, [])
        self.check([begins(2), own(0, 5), owes(0, 1, 5), owes(1, 0, 2)], 0, [1])

    def test_the_party_itself_if_it_falls_now(self):
        self.check([begins(2), own(0, 4), owes(0, 1, 5)], 0, [])

    def test_the_party_itself_in_a_ring(self):
        ring = [owes(i, (i + 1) % 8, 10) for i in range(8)]
        for i in range(8):
            with self.subTest(i=i):
                self.check([begins(8, HALF, HALF), *ring], i, [j for j in range(8) if j != i])

    def test_those_that_fall_already(self):
        calls = [begins(4), own(0, 6), owes(0, 1, 3), owes(0, 2, 3), owes(1, 3, 5), owes(2, 3, 3)]
        self.assertEqual(last(*calls, CLEAR)[:5], [1, 0, 1, 0, 0])
        self.check(calls, 0, [2])

    def test_all_fall_already(self):
        chain = [own(0, 5)] + [owes(i, i + 1, 10) for i in range(7)]
        for i in range(8):
            with self.subTest(i=i):
                self.check([begins(8, HALF, HALF), *chain], i, [])


class WhatTheOthersOweIt(Without):
    def test_they_owe_it_still(self):
        # without the 6 of party 0, party 1 has 4 of the 10 it owes party 0 alone
        calls = [begins(2), own(0, 6), owes(0, 1, 6), own(1, 4), owes(1, 0, 10)]
        self.check(calls, 0, [1])

    def test_its_part_is_still_counted_where_one_falls(self):
        # party 1 has 4 and owes party 0 6 and party 2 2; so party 2 gets 1 alone, and owes 2
        calls = [begins(4), own(0, 4), owes(0, 1, 4), own(1, 4), owes(1, 0, 6), owes(1, 2, 2), owes(2, 3, 2)]
        self.check(calls, 0, [1, 2])

    def test_whoever_has_enough_without_it_stands(self):
        self.check([begins(2), own(0, 6), owes(0, 1, 6), own(1, 10), owes(1, 0, 10)], 0, [])


class AfterIt(Without):
    def test_the_house_is_as_it_was(self):
        calls = [begins(4, HALF, HALF), own(0, 4), owes(0, 1, 4), own(1, 4), owes(1, 0, 6), owes(1, 2, 2),
                 owes(2, 3, 2)]
        told = ask(*calls, CLEAR, LEAST, without(0), without(0), without(1), CLEAR, LEAST)[len(calls):]
        self.assertEqual(told[2], told[3])
        self.assertEqual(told[:2], told[5:])
        self.assertEqual(told[0][:5], [0, 0, 0, 0, 0])


if __name__ == "__main__":
    unittest.main()
