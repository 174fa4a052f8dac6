"""What pays, need, needs, without and lost have in common: what they refuse, and that they change nothing."""

import random
import unittest

from tests.helper import (CLEAR, HALF, LEAST, LOST, NEEDS, NONE, ONE, ask, begins, drawn, last, need, owes, own, pays,
                          without)

MOST = 1000000
BEFORE = [begins(3, HALF, (1, 3)), own(0, 4), own(2, 1, 7), owes(0, 1, 10), owes(1, 2, 6), owes(2, 0, 9)]
ABOUT_ONE = {"pays": pays, "need": need, "without": without}


def all_questions(n):
    return [CLEAR, LEAST, NEEDS, LOST, *[call(i) for call in ABOUT_ONE.values() for i in range(n)]]


class NoSuchParty(unittest.TestCase):
    def test_refused(self):
        for name, call in ABOUT_ONE.items():
            for n in range(1, 9):
                for i in (n, n + 1, 8, MOST):
                    with self.subTest(name, n=n, i=i):
                        self.assertEqual(last(begins(n, HALF, HALF), call(i)), [-2])

    def test_the_last_party_is_there(self):
        for name, call in ABOUT_ONE.items():
            for n in range(1, 9):
                with self.subTest(name, n=n):
                    self.assertGreaterEqual(last(begins(n, HALF, HALF), call(n - 1))[0], 0)

    def test_all_is_as_it_was(self):
        expected = ask(*BEFORE, *all_questions(3))[len(BEFORE):]
        for name, call in ABOUT_ONE.items():
            for i in (3, 8, MOST):
                with self.subTest(name, i=i):
                    told = ask(*BEFORE, call(i), *all_questions(3))[len(BEFORE):]
                    self.assertEqual(told, [[-2]] + expected)

    def test_a_party_of_an_earlier_house_is_not_there(self):
        for name, call in ABOUT_ONE.items():
            with self.subTest(name):
                self.assertEqual(ask(begins(8), call(7), begins(7), call(7), begins(8), call(7))[1::2][1], [-2])

    def test_begins_that_was_refused_brings_no_party(self):
        for name, call in ABOUT_ONE.items():
            with self.subTest(name):
                self.assertEqual(ask(begins(2), begins(9), call(2)), [[2], [-1], [-2]])


class NothingChanges(unittest.TestCase):
    def check(self, calls, n):
        """Every answer is the same before and behind each of the questions."""
        questions = all_questions(n)
        expected = [last(*calls, question) for question in questions]
        for question, answer in zip(questions, expected):
            with self.subTest(calls=calls, question=question):
                self.assertEqual(ask(*calls, question, CLEAR, LEAST, question)[len(calls):],
                                 [answer, expected[0], expected[1], answer])

    def test_one_house(self):
        self.check(BEFORE, 3)

    def test_drawn_houses(self):
        source = random.Random(14)
        for kept_own in (NONE, HALF, ONE):
            for kept_paid in (NONE, HALF, ONE):
                for n in (1, 2, 3, 4):
                    self.check(drawn(source, n, kept_own, kept_paid, 4, 6, 2, 3).calls(), n)

    def test_what_comes_later_counts_from_then_on(self):
        told = ask(begins(2), owes(0, 1, 4), need(0), LOST, own(0, 3), need(0), LOST, own(0, 4), need(0), LOST)
        self.assertEqual([row for row in told if len(row) == 2], [[4, 1], [1, 1], [0, 1]])
        self.assertEqual([row for row in told if len(row) == 4], [[0, 1, 4, 1], [0, 1, 1, 1], [0, 1, 0, 1]])

    def test_what_was_asked_of_an_earlier_house_is_gone(self):
        for question in all_questions(2):
            with self.subTest(question=question):
                self.assertEqual(last(*BEFORE, *all_questions(3), begins(2, HALF, HALF), question),
                                 last(begins(2, HALF, HALF), question))


if __name__ == "__main__":
    unittest.main()
