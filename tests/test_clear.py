"""clear: cases worked out by hand."""

import unittest
from fractions import Fraction

from tests.helper import CLEAR, HALF, NONE, ONE, ask, begins, last, owes, own, pairs, read_clear

MOST = 1000000


class Clear(unittest.TestCase):
    def check(self, calls, n, waves, pays, worth):
        told = read_clear(last(*calls, CLEAR), n)
        self.assertEqual(told, (len([wave for wave in waves if wave]), waves, pays, worth))


class NobodyFalls(Clear):
    def test_one_pays_another(self):
        self.check([begins(2, NONE, NONE), own(0, 5), owes(0, 1, 3)], 2, [0, 0], [3, 0], [2, 3])

    def test_means_of_just_what_is_owed(self):
        self.check([begins(2, NONE, NONE), own(0, 3), owes(0, 1, 3)], 2, [0, 0], [3, 0], [0, 3])

    def test_means_of_just_what_is_owed_by_what_it_is_paid(self):
        calls = [begins(3, NONE, NONE), own(0, 2), own(1, 1, 3), owes(0, 1, 2), owes(1, 2, 7, 3)]
        self.check(calls, 3, [0, 0, 0], [2, Fraction(7, 3), 0], [0, 0, Fraction(7, 3)])

    def test_a_ring_with_nothing_of_its_own(self):
        ring = [owes(i, (i + 1) % 8, 10) for i in range(8)]
        for kept in (NONE, HALF, ONE):
            with self.subTest(kept=kept):
                self.check([begins(8, kept, kept), *ring], 8, [0] * 8, [10] * 8, [0] * 8)

    def test_all_owe_all(self):
        calls = [begins(3, HALF, HALF)] + [owes(i, j, 4) for i in range(3) for j in range(3) if i != j]
        self.check(calls, 3, [0] * 3, [8] * 3, [0] * 3)

    def test_one_that_owes_nothing_has_its_own(self):
        self.check([begins(1), own(0, 5, 3)], 1, [0], [0], [Fraction(5, 3)])

    def test_one_that_owes_nothing_and_has_nothing(self):
        self.check([begins(2), owes(0, 1, 1)], 2, [1, 0], [0, 0], [0, 0])


class OneFallsAlone(Clear):
    def test_kept_of_own(self):
        for kept_own, pays in ((NONE, 0), ((1, 3), 2), (HALF, 3), ((5, 6), 5), (ONE, 6)):
            with self.subTest(kept_own=kept_own):
                calls = [begins(2, kept_own, NONE), own(0, 6), owes(0, 1, 10)]
                self.check(calls, 2, [1, 0], [pays, 0], [0, pays])

    def test_kept_of_paid(self):
        for kept_paid, pays in ((NONE, 0), ((1, 3), 2), (HALF, 3), ((5, 6), 5), (ONE, 6)):
            with self.subTest(kept_paid=kept_paid):
                calls = [begins(3, NONE, kept_paid), own(0, 6), owes(0, 1, 6), own(1, 3), owes(1, 2, 10)]
                self.check(calls, 3, [0, 1, 0], [6, pays, 0], [0, 0, pays])

    def test_both_kept(self):
        calls = [begins(3, (1, 4), (2, 3)), own(0, 6), owes(0, 1, 6), own(1, 2), owes(1, 2, 10)]
        self.check(calls, 3, [0, 1, 0], [6, Fraction(9, 2), 0], [0, 0, Fraction(9, 2)])

    def test_each_creditor_gets_its_part(self):
        calls = [begins(3), own(0, 6), owes(0, 1, 4), owes(0, 2, 8)]
        self.check(calls, 3, [1, 0, 0], [6, 0, 0], [0, 2, 4])

    def test_just_short_of_what_it_owes(self):
        calls = [begins(2, NONE, NONE), own(0, 999999, MOST), owes(0, 1, 1)]
        self.check(calls, 2, [1, 0], [0, 0], [0, 0])

    def test_another_that_owes_it_more_than_it_needs_is_whole(self):
        calls = [begins(3), own(0, 1), owes(0, 1, 5), own(1, 3), owes(1, 2, 4)]
        self.check(calls, 3, [1, 0, 0], [1, 4, 0], [0, 0, 4])


class OneFallsAsAnotherDid(Clear):
    def test_two_waves(self):
        calls = [begins(3, (1, 3), HALF), own(0, 6), owes(0, 1, 10), own(1, 1), owes(1, 2, 9)]
        self.check(calls, 3, [1, 2, 0], [2, Fraction(4, 3), 0], [0, 0, Fraction(4, 3)])

    def test_it_stands_at_just_what_it_owes(self):
        calls = [begins(4), own(0, 4), owes(0, 1, 10), owes(1, 2, 9), own(2, 1), owes(2, 3, 5)]
        self.check(calls, 4, [1, 2, 0, 0], [4, 4, 5, 0], [0, 0, 0, 5])

    def test_it_falls_when_it_has_less(self):
        calls = [begins(4), own(0, 4), owes(0, 1, 10), owes(1, 2, 9), own(2, 999999, MOST), owes(2, 3, 5)]
        paid = 4 + Fraction(999999, MOST)
        self.check(calls, 4, [1, 2, 3, 0], [4, 4, paid, 0], [0, 0, 0, paid])

    def test_a_chain_of_eight(self):
        chain = [own(0, 5)] + [owes(i, i + 1, 10) for i in range(7)]
        waves = [1, 2, 3, 4, 5, 6, 7, 0]
        self.check([begins(8), *chain], 8, waves, [5] * 7 + [0], [0] * 7 + [5])
        halves = [Fraction(5, 2 ** i) for i in range(7)]
        self.check([begins(8, ONE, HALF), *chain], 8, waves, halves + [0], [0] * 7 + [halves[6]])
        self.check([begins(8, NONE, ONE), *chain], 8, waves, [0] * 8, [0] * 8)

    def test_a_chain_against_the_numbering(self):
        calls = [begins(4), own(3, 5), owes(3, 2, 10), owes(2, 1, 10), owes(1, 0, 10)]
        self.check(calls, 4, [0, 3, 2, 1], [0, 5, 5, 5], [5, 0, 0, 0])

    def test_two_fall_in_one_wave(self):
        calls = [begins(5, ONE, ONE), own(0, 2), owes(0, 1, 4), owes(0, 2, 4), owes(1, 3, 4), owes(2, 4, 3),
                 own(4, 1), own(3, 1)]
        self.check(calls, 5, [1, 2, 2, 0, 0], [2, 1, 1, 0, 0], [0, 0, 0, 2, 2])

    def test_a_ring_that_one_breaks_where_all_is_kept_comes_to_nothing(self):
        calls = [begins(4), owes(0, 1, 10), owes(1, 2, 10), owes(2, 0, 10), owes(0, 3, 2)]
        self.check(calls, 4, [1, 2, 3, 0], [0] * 4, [0] * 4)

    def test_a_ring_that_is_broken_pays_what_comes_in(self):
        # p0 = 3 + p1 and p1 = p0 / 2, as party 0 owes half to party 2
        calls = [begins(3), own(0, 3), owes(0, 1, 10), owes(0, 2, 10), owes(1, 0, 10)]
        self.check(calls, 3, [1, 2, 0], [6, 3, 0], [0, 0, 3])

    def test_a_ring_beside_those_that_fall_stays(self):
        calls = [begins(4), owes(0, 1, 3), owes(1, 0, 3), owes(2, 3, 1)]
        self.check(calls, 4, [0, 0, 1, 0], [3, 3, 0, 0], [0] * 4)

    def test_all_that_owe_one_another_alone_and_one_with_own(self):
        calls = [begins(2, NONE, ONE), own(0, 1), owes(0, 1, 5), owes(1, 0, 3)]
        # party 0 has 4 of the 5 it owes and falls; party 1 then is paid 3, just what it owes
        self.check(calls, 2, [1, 0], [3, 3], [0, 0])


class Fractions(Clear):
    def test_lowest_terms(self):
        told = last(begins(2), own(0, 6, 4), owes(0, 1, 6, 8), CLEAR)
        self.assertEqual(told, [0, 0, 0, 3, 4, 3, 4, 0, 1, 3, 4])

    def test_what_is_handed_over_needs_no_lowest_terms(self):
        plain = [begins(3, (1, 3), (2, 5)), own(0, 4), own(1, 1, 7), owes(0, 1, 10), owes(1, 2, 19, 2), CLEAR]
        wide = [begins(3, (300, 900), (400000, 1000000)), own(0, 36, 9), own(1, 100000, 700000),
                owes(0, 1, 1000000, 100000), owes(1, 2, 190, 20), CLEAR]
        self.assertEqual(last(*plain), last(*wide))

    def test_0_is_0_and_1(self):
        told = last(begins(2), own(0, 0, 7), owes(0, 1, 0, 9), own(1, 0, MOST), CLEAR)
        self.assertEqual(told, [0, 0, 0] + [0, 1] * 4)

    def test_large_numbers(self):
        calls = [begins(2, (999999, MOST), NONE), own(0, 999983, 999979), owes(0, 1, MOST, 999961)]
        pays = Fraction(999999, MOST) * Fraction(999983, 999979)
        self.check(calls, 2, [1, 0], [pays, 0], [0, pays])

    def test_large_numbers_that_differ_by_little(self):
        above = [begins(2), own(0, 999999, 999998), owes(0, 1, MOST, 999999)]
        self.check(above, 2, [0, 0], [Fraction(MOST, 999999), 0],
                   [Fraction(1, 999998 * 999999), Fraction(MOST, 999999)])
        below = [begins(2), own(0, MOST, 999999), owes(0, 1, 999999, 999998)]
        self.check(below, 2, [1, 0], [Fraction(MOST, 999999), 0], [0, Fraction(MOST, 999999)])

    def test_millions_beside_millionths(self):
        calls = [begins(2), own(0, MOST), owes(0, 1, 1, MOST)]
        self.check(calls, 2, [0, 0], [Fraction(1, MOST), 0], [MOST - Fraction(1, MOST), Fraction(1, MOST)])


class ManyTimes(Clear):
    def test_clear_changes_nothing(self):
        calls = [begins(3, HALF, HALF), own(0, 4), owes(0, 1, 10), owes(1, 2, 9), owes(2, 0, 1)]
        told = ask(*calls, CLEAR, CLEAR)
        self.assertEqual(told[-1], told[-2])

    def test_what_comes_later_counts_from_then_on(self):
        told = ask(begins(2), owes(0, 1, 4), CLEAR, own(0, 3), CLEAR, own(0, 4), CLEAR, owes(0, 1, 1), CLEAR)
        self.assertEqual([row[0] for row in told if len(row) == 11], [1, 1, 0, 0])
        self.assertEqual([pairs(row[3:]) for row in told if len(row) == 11],
                         [[0, 0, 0, 0], [3, 0, 0, 3], [4, 0, 0, 4], [1, 3, 0, 1]])


if __name__ == "__main__":
    unittest.main()
