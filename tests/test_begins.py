"""begins: what it answers, refuses and leaves behind."""

import unittest

from tests.helper import CLEAR, HALF, LEAST, NONE, ONE, ask, begins, last, owes, own

BEFORE = [begins(3, HALF, (1, 3)), own(0, 4), own(2, 1, 7), owes(0, 1, 10), owes(1, 2, 6), owes(2, 0, 9)]

REFUSED = {
    "no parties": [0, 0, 1, 1, 1, 1],
    "nine parties": [0, 9, 1, 1, 1, 1],
    "as many parties as can be written": [0, 1000000, 1, 1, 1, 1],
    "b is 0": [0, 2, 1, 0, 1, 1],
    "a and b are 0": [0, 2, 0, 0, 1, 1],
    "d is 0": [0, 2, 1, 1, 1, 0],
    "c and d are 0": [0, 2, 1, 1, 0, 0],
    "kept of own is just above 1": [0, 2, 1000000, 999999, 1, 1],
    "kept of own is far above 1": [0, 2, 1000000, 1, 1, 1],
    "kept of paid is just above 1": [0, 2, 1, 1, 1000000, 999999],
    "kept of paid is 2": [0, 2, 1, 1, 2, 1],
    "all at once": [0, 0, 1, 0, 1, 0],
}


class Begins(unittest.TestCase):
    def test_answers_how_many_parties(self):
        for n in range(1, 9):
            with self.subTest(n=n):
                self.assertEqual(ask(begins(n), CLEAR), [[n], [0] + [0] * n + [0, 1, 0, 1] * n])

    def test_least_after_begins(self):
        for n in range(1, 9):
            with self.subTest(n=n):
                self.assertEqual(last(begins(n, ONE, HALF), LEAST), [0] + [0, 1, 0, 1] * n)

    def test_kept_fractions_of_just_0_and_just_1(self):
        for kept_own in (NONE, ONE, (0, 1000000), (1000000, 1000000)):
            for kept_paid in (NONE, ONE, (0, 1000000), (1000000, 1000000)):
                with self.subTest(kept_own=kept_own, kept_paid=kept_paid):
                    self.assertEqual(ask(begins(5, kept_own, kept_paid)), [[5]])

    def test_kept_of_own_comes_first(self):
        house = [own(0, 4), owes(0, 1, 10), owes(1, 2, 9)]
        self.assertEqual(last(begins(3, HALF, NONE), *house, CLEAR),
                         [2, 1, 2, 0, 2, 1, 0, 1, 0, 1, 0, 1, 0, 1, 0, 1])
        self.assertEqual(last(begins(3, NONE, HALF), *house, CLEAR),
                         [2, 1, 2, 0, 0, 1, 0, 1, 0, 1, 0, 1, 0, 1, 0, 1])

    def test_refused(self):
        for name, call in REFUSED.items():
            with self.subTest(name):
                self.assertEqual(ask(call), [[-1]])

    def test_a_refusal_leaves_all_as_it_was(self):
        expected = ask(*BEFORE, CLEAR, LEAST)[-2:]
        self.assertEqual(expected[0][0], 3)
        for name, call in REFUSED.items():
            with self.subTest(name):
                self.assertEqual(ask(*BEFORE, call, CLEAR, LEAST)[-3:], [[-1]] + expected)

    def test_a_refusal_leaves_the_beginning_as_it_was(self):
        for name, call in REFUSED.items():
            with self.subTest(name):
                self.assertEqual(ask(call, CLEAR, own(1, 1, 1)), [[-1], [0, 0, 0, 1, 0, 1], [-2]])

    def test_what_was_there_before_is_gone(self):
        for n in (1, 2, 3, 4, 8):
            with self.subTest(n=n):
                fresh = [begins(n, ONE, HALF), CLEAR, LEAST]
                self.assertEqual(ask(*BEFORE, *fresh)[-2:], ask(*fresh)[-2:])

    def test_parties_are_gone_and_what_was_kept_too(self):
        self.assertEqual(ask(*BEFORE, begins(2), own(2, 1))[-1], [-2])
        told = last(*BEFORE, begins(2), own(0, 4), owes(0, 1, 10), CLEAR)
        self.assertEqual(told, [1, 1, 0, 4, 1, 0, 1, 0, 1, 4, 1])
        self.assertEqual(last(*BEFORE, begins(2), LEAST), [-6])


if __name__ == "__main__":
    unittest.main()
