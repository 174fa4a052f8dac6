"""The small parts: whole numbers and equations."""

import random
import unittest
from fractions import Fraction
from math import gcd, lcm

from tests.helper import eliminated
from whopays.equations import solve
from whopays.whole import lowest, shared_divisor, shared_multiple


class Whole(unittest.TestCase):
    def test_shared_divisor(self):
        for a in range(40):
            for b in range(40):
                if a + b > 0:
                    self.assertEqual(shared_divisor(a, b), gcd(a, b))

    def test_shared_multiple(self):
        for a in range(1, 40):
            for b in range(1, 40):
                self.assertEqual(shared_multiple(a, b), lcm(a, b))

    def test_lowest(self):
        self.assertEqual(lowest(0, 7), [0, 1])
        self.assertEqual(lowest(0, 1), [0, 1])
        self.assertEqual(lowest(6, 4), [3, 2])
        self.assertEqual(lowest(10 ** 60, 10 ** 50), [10 ** 10, 1])


class Equations(unittest.TestCase):
    def test_one(self):
        self.assertEqual(solve([[4, 6]]), [4, 6])

    def test_two(self):
        self.assertEqual(solve([[2, 1, 5], [1, 3, 10]]), [5, 5, 15])

    def test_many(self):
        source = random.Random(1)
        for count in range(1, 9):
            for k in range(10):
                rows = [[-source.randint(0, 9) for j in range(count)] for i in range(count)]
                for i in range(count):
                    rows[i][i] = 80 + source.randint(1, 9)
                    rows[i].append(source.randint(0, 99))
                kept = [list(row) for row in rows]
                told = solve(rows)
                self.assertEqual(rows, kept)
                self.assertEqual([Fraction(above, told[0]) for above in told[1:]],
                                 eliminated([[Fraction(value) for value in row] for row in rows]))


if __name__ == "__main__":
    unittest.main()
