"""own and owes: what they set, what they refuse and leave."""

import unittest

from tests.helper import CLEAR, HALF, LEAST, ask, begins, last, owes, own

BEFORE = [begins(3, HALF, (1, 3)), own(0, 4), own(2, 1, 7), owes(0, 1, 10), owes(1, 2, 6), owes(2, 0, 9)]
MOST = 1000000

REFUSED = {
    "own: the party just behind the last": (own(3, 1), -2),
    "own: a party far behind": (own(MOST, 1), -2),
    "own: b is 0": (own(0, 1, 0), -1),
    "own: a and b are 0": (own(2, 0, 0), -1),
    "own: no such party, and b is 0": (own(3, 1, 0), -2),
    "owes: i isn't there": (owes(3, 0, 1), -2),
    "owes: j isn't there": (owes(0, 3, 1), -2),
    "owes: neither is there": (owes(4, 3, 1), -2),
    "owes: i is far behind": (owes(MOST, 0, 1), -2),
    "owes: j is far behind": (owes(0, MOST, 1), -2),
    "owes: b is 0": (owes(0, 1, 1, 0), -1),
    "owes: a and b are 0": (owes(0, 1, 0, 0), -1),
    "owes: both are the same": (owes(1, 1, 5), -1),
    "owes: both are the same, and nothing is owed": (owes(1, 1, 0), -1),
    "owes: both are the same, and b is 0": (owes(1, 1, 5, 0), -1),
    "owes: both are the same and not there": (owes(3, 3, 5), -2),
    "owes: i isn't there, and b is 0": (owes(3, 0, 5, 0), -2),
    "owes: j isn't there, and b is 0": (owes(0, 3, 5, 0), -2),
    "owes: both are the same and not there, and b is 0": (owes(3, 3, 5, 0), -2),
}


class Own(unittest.TestCase):
    def test_answers_0_for_each_party(self):
        for i in range(8):
            with self.subTest(i=i):
                told = ask(begins(8), own(i, 3, 5), CLEAR)
                self.assertEqual(told[1], [0])
                worth = [0, 1] * 8
                worth[2 * i:2 * i + 2] = [3, 5]
                self.assertEqual([told[2][9 + 4 * k + 2:9 + 4 * k + 4] for k in range(8)],
                                 [worth[2 * k:2 * k + 2] for k in range(8)])

    def test_a_second_one_takes_the_place_of_the_first(self):
        self.assertEqual(last(own(0, 7, 2), own(0, 5, 3), CLEAR), [0, 0, 0, 1, 5, 3])
        self.assertEqual(last(own(0, 7, 2), own(0, 0, 3), CLEAR), [0, 0, 0, 1, 0, 1])

    def test_the_greatest_and_the_least(self):
        self.assertEqual(last(own(0, MOST, 1), CLEAR), [0, 0, 0, 1, MOST, 1])
        self.assertEqual(last(own(0, 1, MOST), CLEAR), [0, 0, 0, 1, 1, MOST])
        self.assertEqual(last(own(0, MOST, MOST), CLEAR), [0, 0, 0, 1, 1, 1])

    def test_own_may_be_above_1(self):
        self.assertEqual(ask(own(0, 5, 2)), [[0]])


class Owes(unittest.TestCase):
    def test_answers_0_for_each_pair(self):
        for i in range(8):
            for j in range(8):
                if i != j:
                    with self.subTest(i=i, j=j):
                        told = ask(begins(8), own(i, 3), owes(i, j, 3), CLEAR)
                        self.assertEqual(told[2], [0])
                        expected = [[0, 1, 0, 1] for k in range(8)]
                        expected[i] = [3, 1, 0, 1]
                        expected[j] = [0, 1, 3, 1]
                        self.assertEqual(told[3], [0] * 9 + sum(expected, []))

    def test_a_second_one_takes_the_place_of_the_first(self):
        told = last(begins(2), own(0, 9), owes(0, 1, 7), owes(0, 1, 5, 2), CLEAR)
        self.assertEqual(told, [0, 0, 0, 5, 2, 13, 2, 0, 1, 5, 2])
        told = last(begins(2), own(0, 9), owes(0, 1, 7), owes(0, 1, 0), CLEAR)
        self.assertEqual(told, [0, 0, 0, 0, 1, 9, 1, 0, 1, 0, 1])

    def test_what_one_owes_the_other_is_not_what_that_owes_the_one(self):
        told = last(begins(2), own(0, 9), own(1, 9), owes(0, 1, 7), owes(1, 0, 2), CLEAR)
        self.assertEqual(told, [0, 0, 0, 7, 1, 4, 1, 2, 1, 14, 1])

    def test_several_creditors_are_owed_together(self):
        told = last(begins(3), own(0, 3), owes(0, 1, 1), owes(0, 2, 3, 2), CLEAR)
        self.assertEqual(told, [0, 0, 0, 0, 5, 2, 1, 2, 0, 1, 1, 1, 0, 1, 3, 2])


class Refused(unittest.TestCase):
    def test_each(self):
        for name, (call, refusal) in REFUSED.items():
            with self.subTest(name):
                self.assertEqual(last(*BEFORE, call), [refusal])

    def test_all_is_as_it_was(self):
        expected = ask(*BEFORE, CLEAR, LEAST)[-2:]
        for name, (call, refusal) in REFUSED.items():
            with self.subTest(name):
                self.assertEqual(ask(*BEFORE, call, CLEAR, LEAST)[-3:], [[refusal]] + expected)

    def test_a_party_of_an_earlier_house_is_not_there(self):
        self.assertEqual(ask(begins(8), begins(2), own(2, 1), owes(0, 2, 1), owes(2, 0, 1))[2:], [[-2]] * 3)


if __name__ == "__main__":
    unittest.main()
