"""The greatest divisor in common, of numbers of all lengths."""

import math
import random
import unittest

from platerest.divisors import GREAT_BITS, divisor, shrinking


class Tests(unittest.TestCase):
    def agrees(self, one, other):
        right = math.gcd(one, other)
        for first, second in ((one, other), (other, one), (-one, other), (one, -other), (-other, -one)):
            self.assertEqual(divisor(first, second), right)

    def test_small_ones(self):
        for one in range(-30, 31):
            for other in range(-30, 31):
                self.assertEqual(divisor(one, other), math.gcd(one, other))

    def test_chance(self):
        chance = random.Random(1)
        for figures in (1, 3, 20, 300, 600, 1200, 1250, 2500, 6000):
            for other in (1, 600, 1230, 6000):
                for common in (1, 10 ** 3, 10 ** 400, 10 ** 2000):
                    many = chance.randint(1, common)
                    self.agrees(many * chance.randint(1, 10 ** figures), many * chance.randint(1, 10 ** other))

    def test_nought_and_one(self):
        great = 3 ** 9000
        for one, other in ((0, great), (1, great), (great, great), (great, great + 1), (great, 7 * great)):
            self.agrees(one, other)

    def test_ill_placed_ones(self):
        for bits in (GREAT_BITS - 1, GREAT_BITS, GREAT_BITS + 1, 3 * GREAT_BITS, 20000):
            one = 1 << bits
            for other in (one, one - 1, one + 1, one >> 1, one >> (bits // 2), (one >> (bits // 2)) + 1, 3 * one):
                self.agrees(one, other)
                self.agrees(one + 1, other)
                self.agrees(15 * one, 6 * other)
        self.agrees(10 ** 5000 << 9000, 6 ** 4000)

    def test_the_longest_way(self):
        one, other = 1, 1
        for step in range(20000):
            one, other = other, one + other
        self.agrees(one, other)
        self.agrees(one * 3 ** 3000, other * 3 ** 3000)

    def test_a_mixing_keeps_divisors_and_makes_numbers_shorter(self):
        chance = random.Random(2)
        for bits in (10, 90, 100, 101, 200, 201, 202, 203, 400, 1000, 5000):
            for turn in range(20):
                other, one = sorted([chance.getrandbits(bits) | 1 << (bits - 1), chance.getrandbits(bits)])
                a, b, c, d = shrinking(one, other)
                self.assertIn(a * d - b * c, (1, -1))
                longest = max(abs(a * one + b * other), abs(c * one + d * other))
                self.assertLess(longest.bit_length(), bits * 3 // 4 + 10)


if __name__ == "__main__":
    unittest.main()
