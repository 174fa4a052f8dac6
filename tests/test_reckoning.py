"""clear and least against the tests' own reckoning: by the document's condition, over all payments that can be."""

import random
import unittest
from fractions import Fraction
from itertools import product

from tests.helper import CLEAR, LEAST, Model, ask, drawn, read_clear, read_least

KEPT = [(0, 1), (1, 3), (1, 2), (1, 1)]
KEPT_BELOW_1 = [(0, 1), (1, 3), (1, 2), (4, 5)]


def all_pairs():
    """All houses of two parties with small amounts."""
    for kept_own, kept_paid in product(KEPT, KEPT):
        for first, second, there, back in product(range(4), range(4), range(4), range(4)):
            yield Model(kept_own, kept_paid, [first, second], [[0, there], [back, 0]])


class Reckoning(unittest.TestCase):
    def tell(self, model):
        """What clear and least tell of the model, and that what they tell agrees with itself."""
        told = ask(*model.calls(), CLEAR, LEAST)
        falls, waves, greatest, worth = read_clear(told[-2], model.n)
        self.assertTrue(model.can_be(greatest))
        self.assertEqual([i for i in range(model.n) if waves[i] > 0], model.fallen(greatest))
        self.assertEqual(falls, len(model.fallen(greatest)))
        self.assertEqual(worth, model.worth(greatest))
        self.assertEqual((waves, greatest), model.waves())
        if model.kept_paid == 1:
            self.assertEqual(told[-1], [-6])
            return greatest, None
        falls, least, worth = read_least(told[-1], model.n)
        self.assertTrue(model.can_be(least))
        self.assertEqual(falls, len(model.fallen(least)))
        self.assertEqual(worth, model.worth(least))
        return greatest, least

    def check_against(self, model, greatest, least, found):
        for pays in found:
            for i in range(model.n):
                self.assertLessEqual(pays[i], greatest[i])
                if least is not None:
                    self.assertGreaterEqual(pays[i], least[i])

    def check_all(self, model):
        """Returns whether the least payments are less than the greatest."""
        with self.subTest(calls=model.calls()):
            greatest, least = self.tell(model)
            found = model.all_that_can_be()
            self.assertIn(greatest, found)
            if least is not None:
                self.assertIn(least, found)
            self.check_against(model, greatest, least, found)
            return least is not None and least != greatest


class EveryChoiceOfTheFallen(Reckoning):
    def test_all_pairs(self):
        apart = [self.check_all(model) for model in all_pairs()]
        self.assertIn(True, apart)

    def check_drawn(self, seed, times, n, *shape):
        source = random.Random(seed)
        apart = []
        for k in range(times):
            kept_own = source.choice(KEPT)
            kept_paid = source.choice(KEPT_BELOW_1)
            apart.append(self.check_all(drawn(source, n, kept_own, kept_paid, *shape)))
        self.assertGreater(apart.count(True), times // 50)
        self.assertGreater(apart.count(False), times // 50)

    def test_three_parties(self):
        self.check_drawn(3, 500, 3, 3, 4, 2)

    def test_three_parties_with_fractions(self):
        self.check_drawn(33, 300, 3, 3, 9, 1, 4)

    def test_four_parties(self):
        self.check_drawn(4, 250, 4, 3, 5, 2)

    def test_five_parties_and_few_debts(self):
        self.check_drawn(5, 100, 5, 4, 5, 3, 2)

    def test_seven_parties(self):
        self.check_drawn(7, 12, 7, 2, 5, 3)


class AllPaidIsKept(Reckoning):
    """Here payments that can be may be without number, so they are looked for on a grid."""

    def check_grid(self, model, step):
        with self.subTest(calls=model.calls()):
            greatest, least = self.tell(model)
            self.assertIsNone(least)
            self.check_against(model, greatest, None, model.all_that_can_be() + model.on_grid(step))

    def test_two_parties(self):
        for kept_own in KEPT:
            for first, second, there, back in product(range(3), range(3), range(4), range(4)):
                model = Model(kept_own, (1, 1), [first, second], [[0, there], [back, 0]])
                self.check_grid(model, Fraction(1, 2))

    def test_three_parties(self):
        source = random.Random(333)
        for k in range(150):
            self.check_grid(drawn(source, 3, source.choice(KEPT), (1, 1), 1, 2, 2), Fraction(1, 2))

    def test_more_parties_by_waves(self):
        source = random.Random(8)
        for n in (4, 5, 6, 7, 8):
            for k in range(20):
                model = drawn(source, n, source.choice(KEPT), (1, 1), 2, 5, 2)
                with self.subTest(calls=model.calls()):
                    self.tell(model)


class AtTheLimits(Reckoning):
    def test_eight_parties_with_large_numbers(self):
        source = random.Random(88)
        for kept_own, kept_paid in (((999983, 1000000), (999979, 1000000)), ((1, 2), (999999, 1000000)),
                                    ((0, 1), (1, 1000000)), ((1, 1), (1, 1))):
            for filled in (2, 3):
                model = drawn(source, 8, kept_own, kept_paid, 1000000, 1000000, filled, 1000000)
                with self.subTest(calls=model.calls()):
                    self.assertLessEqual(len(model.calls()), 58)
                    self.tell(model)

    def test_eight_parties_of_every_choice(self):
        source = random.Random(888)
        apart = []
        for k in range(4):
            model = drawn(source, 8, (1, 2), (2, 3), 0, 6, 3)
            for i in range(8):
                # each just has what it lacks when all pay, so that much hangs on whether they do
                model.owned[i] = max(model.debts[i] - model.gets(model.debts, i), Fraction(0))
            apart.append(self.check_all(model))
        self.assertIn(True, apart)


if __name__ == "__main__":
    unittest.main()
