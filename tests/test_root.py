"""The root as a step by itself."""

import fractions
import math
import unittest

from bitmatrix.double import is_above_zero, root, whole_root
from bitmatrix.refusals import NotFinite
from tests.native import (
    EDGES, LARGEST, NEGATIVE_ZERO, SMALLEST, SMALLEST_NORMAL, any_double, bits, double_between, number, seeded,
)

ONE = 0x3FF0000000000000
UNSIGNED = 0x7FFFFFFFFFFFFFFF


def exact(pattern):
    return fractions.Fraction(number(pattern))


class AgainstTheMachine(unittest.TestCase):
    def compare(self, x):
        expected = bits(math.sqrt(number(x)))
        if root(x) != expected:
            self.fail(f"root of {x:#x}: {root(x):#x}, not {expected:#x}")

    def test_edges(self):
        for x in EDGES:
            self.compare(x)

    def test_any_doubles(self):
        source = seeded(51)
        for _ in range(20000):
            self.compare(any_double(source) & UNSIGNED)

    def test_below_the_smallest_normal(self):
        source = seeded(52)
        for x in range(3000):
            self.compare(x)
            self.compare(SMALLEST_NORMAL - x)
            self.compare(SMALLEST_NORMAL + x)
            self.compare(source.getrandbits(source.randint(1, 52)))

    def test_the_greatest(self):
        for x in range(3000):
            self.compare(LARGEST - x)

    def test_exact_squares(self):
        source = seeded(53)
        for _ in range(5000):
            side = float(source.getrandbits(source.randint(1, 26))) * 2.0 ** source.randint(-530, 480)
            self.assertEqual(root(bits(side * side)), bits(side))

    def test_near_a_tie(self):
        # The doubles about the square of a number halfway between two doubles have a root just about there.
        source = seeded(54)
        for _ in range(5000):
            half = (source.getrandbits(53) | (1 << 53)) | 1
            square = bits(float(half * half))
            for x in (square - 1, square, square + 1):
                self.compare(x)
                self.compare(x - (200 << 52))


class Nearest(unittest.TestCase):
    def test_no_double_is_nearer(self):
        source = seeded(55)
        for _ in range(2000):
            x = double_between(source, 0, 2046) & UNSIGNED
            side = root(x)
            below = (exact(side) + exact(side - 1)) / 2
            above = (exact(side) + exact(side + 1)) / 2
            self.assertTrue(below * below < exact(x) < above * above, hex(x))


class KnownBits(unittest.TestCase):
    def test_squares(self):
        for side in (1, 2, 3, 1.5, 0.25, 94906265):
            self.assertEqual(root(bits(float(side * side))), bits(float(side)))

    def test_no_squares(self):
        self.assertEqual(root(bits(2.0)), 0x3FF6A09E667F3BCD)
        self.assertEqual(root(bits(3.0)), 0x3FFBB67AE8584CAA)
        self.assertEqual(root(bits(0.5)), 0x3FE6A09E667F3BCD)
        self.assertEqual(root(bits(10.0)), 0x40094C583ADA5B53)

    def test_beside_one(self):
        # Both roots lie just below a tie.
        self.assertEqual(root(ONE + 1), ONE)
        self.assertEqual(root(ONE - 1), ONE - 1)
        self.assertEqual(root(ONE + 2), ONE + 1)
        self.assertEqual(root(ONE + 3), ONE + 1)
        self.assertEqual(root(ONE - 2), ONE - 1)
        self.assertEqual(root(ONE - 3), ONE - 2)

    def test_the_smallest(self):
        self.assertEqual(root(SMALLEST), 0x1E60000000000000)
        self.assertEqual(root(2), 0x1E66A09E667F3BCD)
        self.assertEqual(root(4), 0x1E70000000000000)
        self.assertEqual(root(SMALLEST_NORMAL), 0x2000000000000000)
        self.assertEqual(root(SMALLEST_NORMAL - 1), 0x1FFFFFFFFFFFFFFF)

    def test_the_greatest(self):
        self.assertEqual(root(LARGEST), 0x5FEFFFFFFFFFFFFF)

    def test_zeros_and_below(self):
        self.assertEqual(root(0), 0)
        self.assertEqual(root(NEGATIVE_ZERO), NEGATIVE_ZERO)
        for x in (SMALLEST, ONE, LARGEST):
            with self.assertRaises(NotFinite):
                root(x | NEGATIVE_ZERO)


class Helpers(unittest.TestCase):
    def test_whole_root(self):
        for x in range(1, 2000):
            self.assertEqual(whole_root(x), math.isqrt(x))
        source = seeded(56)
        for _ in range(2000):
            x = source.getrandbits(source.randint(1, 170)) | 1
            for y in (x, x * x, x * x + 2 * x, x * x + 2 * x + 1):
                self.assertEqual(whole_root(y), math.isqrt(y))

    def test_above_zero(self):
        for x in (SMALLEST, ONE, LARGEST):
            self.assertTrue(is_above_zero(x))
            self.assertFalse(is_above_zero(x | NEGATIVE_ZERO))
        self.assertFalse(is_above_zero(0))
        self.assertFalse(is_above_zero(NEGATIVE_ZERO))


if __name__ == "__main__":
    unittest.main()
