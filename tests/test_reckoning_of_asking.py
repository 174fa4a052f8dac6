"""pays, need, needs, without and lost against the tests' own reckoning."""

import random
import unittest
from fractions import Fraction
from itertools import product

from tests.helper import (LOST, NEEDS, Model, ask, drawn, need, pays, read_for_each, read_lost, read_need, read_without,
                          without)

KEPT = [(0, 1), (1, 3), (1, 2), (1, 1)]
KEPT_BELOW_1 = [(0, 1), (1, 3), (1, 2), (4, 5)]
A_LITTLE = Fraction(1, 10 ** 9)


def alone(n, i, amount):
    return [amount if j == i else Fraction(0) for j in range(n)]


class Asking(unittest.TestCase):
    def greatest_without(self, model, i):
        """As the words tell it if that can be reckoned; else by waves of a house in which party i owes nothing."""
        if model.kept_paid < 1 and model.n < 6:
            return model.greatest_without(i)
        owned = [Fraction(0) if j == i else model.owned[j] for j in range(model.n)]
        owed = [[Fraction(0)] * model.n if j == i else model.owed[j] for j in range(model.n)]
        return Model(model.kept_own.as_integer_ratio(), model.kept_paid.as_integer_ratio(), owned, owed).waves()[1]

    def greatest(self, model):
        return model.greatest() if model.n < 6 else model.waves()[1]

    def check(self, model):
        """Checks all five; returns what need tells of each, and what without does."""
        n = model.n
        each = range(n)
        questions = [*[pays(i) for i in each], *[need(i) for i in each], *[without(i) for i in each], NEEDS, LOST]
        calls = model.calls()
        told = [ask(*calls, question)[-1] for question in questions]
        with self.subTest(calls=calls):
            greatest = self.greatest(model)
            self.check_pays(model, greatest, [read_for_each(row, n) for row in told[:n]])
            wanted = [read_need(row) for row in told[n:2 * n]]
            for i in each:
                self.check_need(model, greatest, i, wanted[i])
            gone = [read_without(row) for row in told[2 * n:3 * n]]
            for i in each:
                self.check_without(model, greatest, i, gone[i])
            self.check_needs(model, read_for_each(told[-2], n))
            self.check_lost(model, greatest, read_lost(told[-1]))
            return wanted, gone

    def check_pays(self, model, greatest, told):
        for i, j in product(range(model.n), range(model.n)):
            part = model.owed[i][j] / model.debts[i] if model.debts[i] > 0 else 0
            self.assertEqual(told[i][j], greatest[i] * part)

    def check_need(self, model, greatest, i, told):
        enough = model.with_more(alone(model.n, i, told))
        self.assertFalse(enough.falls(self.greatest(enough), i))
        self.assertEqual(told > 0, model.falls(greatest, i))
        if told > 0:
            less = model.with_more(alone(model.n, i, told - min(A_LITTLE, told)))
            self.assertTrue(less.falls(self.greatest(less), i))

    def check_needs(self, model, told):
        enough = model.with_more(told)
        self.assertEqual(enough.fallen(self.greatest(enough)), [])
        for i in range(model.n):
            if told[i] > 0:
                # however much all the others had, a little less would be too little for this one
                less = model.with_more([told[j] - min(A_LITTLE, told[i]) if j == i else 10 ** 9
                                        for j in range(model.n)])
                self.assertEqual(less.fallen(self.greatest(less)), [i])

    def check_without(self, model, greatest, i, told):
        then = self.greatest_without(model, i)
        self.assertEqual(then[i], 0)
        now = model.fallen(greatest)
        self.assertEqual(told, [j for j in model.fallen(then) if j != i and j not in now])

    def check_lost(self, model, greatest, told):
        lost = sum(model.means(greatest, i) - greatest[i] for i in model.fallen(greatest))
        self.assertEqual(told, (lost, sum(model.debts) - sum(greatest)))


class Small(Asking):
    def test_all_pairs(self):
        for kept_own, kept_paid in product(KEPT, KEPT):
            for first, second, there, back in product(range(3), range(3), range(4), range(4)):
                self.check(Model(kept_own, kept_paid, [first, second], [[0, there], [back, 0]]))

    def check_drawn(self, seed, times, n, kept, *shape):
        """The houses must be such as tell something: in some a need is less than what is lacking now."""
        source = random.Random(seed)
        less = 0
        several = 0
        for k in range(times):
            model = drawn(source, n, source.choice(KEPT), source.choice(kept), *shape)
            wanted, gone = self.check(model)
            greatest = self.greatest(model)
            lacking = [max(model.debts[i] - model.means(greatest, i), 0) for i in range(n)]
            less += int(any(wanted[i] < lacking[i] for i in range(n)))
            several += int(any(len(row) > 1 for row in gone))
        self.assertGreater(less, times // 20)
        self.assertGreater(several, 0)

    def test_three_parties(self):
        self.check_drawn(31, 150, 3, KEPT_BELOW_1, 3, 4, 2)

    def test_three_parties_with_fractions(self):
        self.check_drawn(32, 100, 3, KEPT_BELOW_1, 3, 9, 1, 4)

    def test_three_parties_where_all_paid_is_kept(self):
        self.check_drawn(33, 150, 3, [(1, 1)], 2, 4, 1, 3)

    def test_four_parties(self):
        self.check_drawn(41, 40, 4, KEPT_BELOW_1, 3, 5, 2)

    def test_five_parties_with_few_debts(self):
        self.check_drawn(51, 12, 5, KEPT_BELOW_1, 4, 5, 3, 2)


class Large(Asking):
    def test_up_to_eight_parties(self):
        source = random.Random(86)
        for n in (6, 7, 8):
            for k in range(12):
                self.check(drawn(source, n, source.choice(KEPT), source.choice(KEPT), 4, 6, 2, 2))

    def test_eight_parties_that_hang_on_one_another(self):
        source = random.Random(87)
        several = 0
        for k in range(8):
            model = drawn(source, 8, source.choice(KEPT), source.choice(KEPT), 0, 6, 3)
            for i in range(8):
                # each just has what it lacks when all pay
                model.owned[i] = max(model.debts[i] - model.gets(model.debts, i), Fraction(0))
            several += max(len(row) for row in self.check(model)[1])
        self.assertGreater(several, 16)

    def test_eight_parties_with_large_numbers(self):
        source = random.Random(89)
        for kept_own, kept_paid in (((999983, 1000000), (999979, 1000000)), ((1, 2), (999999, 1000000)),
                                    ((0, 1), (1, 1000000)), ((1, 1), (1, 1))):
            model = drawn(source, 8, kept_own, kept_paid, 1000000, 1000000, 2, 1000000)
            self.assertLessEqual(len(model.calls()), 59)
            self.check(model)


if __name__ == "__main__":
    unittest.main()
