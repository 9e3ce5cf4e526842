"""The arithmetic that all the rest leans on, at its edges."""

import math
import random
import unittest

from feelbench.whole import double_taken, held16, held32, rounded, square_root
from tests.helper import bits
from tests.model import r, taken


class WholeTest(unittest.TestCase):
    def test_rounded(self):
        self.assertEqual([rounded(x, 0) for x in (-3, 0, 7)], [-3, 0, 7])
        self.assertEqual([rounded(x, 1) for x in (-3, -2, -1, 0, 1, 2, 3)], [-1, -1, 0, 0, 1, 1, 2])
        self.assertEqual([rounded(x, 2) for x in (-6, -5, -3, -2, 1, 2, 5, 6)], [-1, -1, -1, 0, 0, 1, 1, 2])
        chance = random.Random(1)
        for _ in range(300):
            x = chance.randint(-2 ** 80, 2 ** 80)
            k = chance.randint(0, 62)
            self.assertEqual(rounded(x, k), r(x, k))

    def test_held(self):
        for held, low, high in ((held16, -32768, 32767), (held32, -2147483648, 2147483647)):
            for x in (low, low + 1, -1, 0, 1, high - 1, high):
                self.assertEqual(held(x), x)
            for x in (low - 1, low - 2, 10 * low):
                self.assertEqual(held(x), low)
            for x in (high + 1, high + 2, 10 * high):
                self.assertEqual(held(x), high)

    def test_square_root(self):
        for x in range(2000):
            self.assertEqual(square_root(x), math.isqrt(x))
        for k in range(1, 50):
            root = 2 ** k + k
            self.assertEqual([square_root(root * root + d) for d in (-1, 0, 1)], [root - 1, root, root])

    def test_double_taken(self):
        chance = random.Random(2)
        for _ in range(2000):
            word = chance.getrandbits(64)
            self.assertEqual(double_taken(word, 20), taken(word, 20))
            word = bits(chance.randint(-4000, 4000) * 0.5 ** chance.randint(28, 33))
            self.assertEqual(double_taken(word, 30), taken(word, 30))


if __name__ == "__main__":
    unittest.main()
