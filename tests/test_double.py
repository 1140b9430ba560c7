"""The steps by themselves: known bits, edges, and many against the machine's own doubles."""

import math
import unittest

from bitmatrix.double import add, divide, multiply, subtract
from bitmatrix.refusals import NotFinite
from tests.native import (
    EDGES, LARGEST, NEGATIVE_ZERO, SMALLEST, SMALLEST_NORMAL, any_double, bits, double_between,
    near_double, number, seeded,
)

ONE = 0x3FF0000000000000
TWO = 0x4000000000000000
HALF = 0x3FE0000000000000
THREE = 0x4008000000000000
SIGN = 0x8000000000000000


def native_quotient(x, y):
    return x / y if y else math.inf


STEPS = (
    (add, lambda x, y: x + y),
    (subtract, lambda x, y: x - y),
    (multiply, lambda x, y: x * y),
    (divide, native_quotient),
)


def made(step, x, y):
    try:
        return step(x, y)
    except NotFinite:
        return None


class AgainstTheMachine(unittest.TestCase):
    def compare(self, x, y):
        for step, native in STEPS:
            result = native(number(x), number(y))
            expected = bits(result) if math.isfinite(result) else None
            if made(step, x, y) != expected:
                self.fail(f"{step.__name__} of {x:#x} and {y:#x}: {made(step, x, y)}, not {expected}")

    def test_each_edge_with_each(self):
        signed = EDGES + tuple(x | SIGN for x in EDGES)
        for x in signed:
            for y in signed:
                self.compare(x, y)

    def test_any_doubles(self):
        source = seeded(1)
        for _ in range(20000):
            self.compare(any_double(source), any_double(source))

    def test_doubles_of_like_size(self):
        source = seeded(2)
        for _ in range(20000):
            self.compare(near_double(source, 60), near_double(source, 60))

    def test_results_about_the_smallest_normal(self):
        source = seeded(3)
        for _ in range(10000):
            tiny = double_between(source, 0, 60)
            self.compare(tiny, double_between(source, 0, 60))
            self.compare(tiny, double_between(source, 963, 1083))
            self.compare(double_between(source, 480, 540), double_between(source, 480, 540))

    def test_results_about_the_largest(self):
        source = seeded(4)
        for _ in range(5000):
            huge = double_between(source, 2040, 2046)
            self.compare(huge, double_between(source, 2040, 2046))
            self.compare(huge, double_between(source, 1020, 1026))
            self.compare(double_between(source, 1530, 1536), double_between(source, 1530, 1536))
            self.compare(double_between(source, 1530, 1536), double_between(source, 510, 516))


class KnownBits(unittest.TestCase):
    def test_ties_go_to_even(self):
        half_unit = 0x3CA0000000000000  # 2^-53
        self.assertEqual(add(ONE, half_unit), ONE)
        self.assertEqual(add(ONE, half_unit + 1), ONE + 1)
        self.assertEqual(add(ONE + 1, half_unit), ONE + 2)
        self.assertEqual(add(ONE + 1, half_unit - 1), ONE + 1)

    def test_a_speck_far_below_decides_no_tie_but_its_own(self):
        self.assertEqual(add(ONE, SMALLEST), ONE)
        self.assertEqual(subtract(ONE, SMALLEST), ONE)

    def test_a_third_and_a_tenth(self):
        self.assertEqual(divide(ONE, THREE), 0x3FD5555555555555)
        self.assertEqual(divide(TWO, THREE), 0x3FE5555555555555)
        self.assertEqual(divide(ONE, bits(10.0)), 0x3FB999999999999A)

    def test_below_the_smallest_normal(self):
        self.assertEqual(multiply(SMALLEST, HALF), 0)
        self.assertEqual(multiply(3, HALF), 2)
        self.assertEqual(multiply(5, HALF), 2)
        self.assertEqual(multiply(SMALLEST, HALF + 1), SMALLEST)
        self.assertEqual(divide(3 | SIGN, TWO), 2 | SIGN)
        self.assertEqual(divide(SMALLEST | SIGN, TWO), NEGATIVE_ZERO)
        self.assertEqual(subtract(SMALLEST_NORMAL, SMALLEST), SMALLEST_NORMAL - 1)
        self.assertEqual(add(SMALLEST_NORMAL - 1, SMALLEST), SMALLEST_NORMAL)

    def test_rounding_up_into_the_normal(self):
        # (1 - 2^-53) times 2^-1022 lies halfway between the last subnormal and the first normal.
        self.assertEqual(multiply(SMALLEST_NORMAL, ONE - 1), SMALLEST_NORMAL)

    def test_signs_of_zero(self):
        self.assertEqual(add(0, NEGATIVE_ZERO), 0)
        self.assertEqual(add(NEGATIVE_ZERO, 0), 0)
        self.assertEqual(add(NEGATIVE_ZERO, NEGATIVE_ZERO), NEGATIVE_ZERO)
        self.assertEqual(subtract(NEGATIVE_ZERO, 0), NEGATIVE_ZERO)
        self.assertEqual(subtract(NEGATIVE_ZERO, NEGATIVE_ZERO), 0)
        self.assertEqual(subtract(ONE, ONE), 0)
        self.assertEqual(subtract(ONE | SIGN, ONE | SIGN), 0)
        self.assertEqual(multiply(0, ONE | SIGN), NEGATIVE_ZERO)
        self.assertEqual(multiply(NEGATIVE_ZERO, ONE | SIGN), 0)
        self.assertEqual(multiply(LARGEST, NEGATIVE_ZERO), NEGATIVE_ZERO)
        self.assertEqual(divide(0, ONE | SIGN), NEGATIVE_ZERO)
        self.assertEqual(divide(0, LARGEST), 0)

    def test_just_finite_and_no_longer(self):
        half_unit = 0x7C90000000000000  # 2^970: half of the largest double's last unit
        self.assertEqual(add(LARGEST, half_unit - 1), LARGEST)
        self.assertIsNone(made(add, LARGEST, half_unit))
        self.assertEqual(subtract(LARGEST | SIGN, half_unit - 1), LARGEST | SIGN)
        self.assertIsNone(made(subtract, LARGEST | SIGN, half_unit))
        self.assertIsNone(made(multiply, LARGEST, ONE + 1))
        self.assertIsNone(made(divide, LARGEST, ONE - 1))
        self.assertEqual(multiply(LARGEST - 1, ONE), LARGEST - 1)

    def test_by_zero(self):
        self.assertIsNone(made(divide, ONE, 0))
        self.assertIsNone(made(divide, 0, NEGATIVE_ZERO))


if __name__ == "__main__":
    unittest.main()
