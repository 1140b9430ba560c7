"""Point 4, det, and what the document says ahead of it."""

import itertools
import unittest

from bitmatrix.desk import det, lu
from tests import native
from tests.checks import check_kind, check_pure, check_same, drawn, placed
from tests.native import LARGEST, NEGATIVE_ZERO, NOT_FINITE, SMALLEST, WRONG_SIZES, all_bits, bits, seeded

ONE = 0x3FF0000000000000
EVEN_ORDERS = ([0, 1, 2], [1, 2, 0], [2, 0, 1])
ODD_ORDERS = ([1, 0, 2], [0, 2, 1], [2, 1, 0])


def diagonal(patterns, beside=0):
    n = len(patterns)
    return [patterns[i // n] if i % (n + 1) == 0 else beside for i in range(n * n)]


def along(numbers):
    """det of a table with these on the diagonal, in plain order."""
    return det(len(numbers), diagonal(all_bits(numbers)), list(range(len(numbers))))


def handed_on(n, a):
    """What lu makes of a, handed on; or lu's refusal."""
    answer = lu(n, a)
    return det(n, answer[1:n * n + 1], answer[n * n + 1:]) if answer[0] == 0 else answer


def native_handed_on(n, a):
    answer = native.lu(n, a)
    return native.det(n, answer[1:n * n + 1], answer[n * n + 1:]) if answer[0] == 0 else answer


def is_odd(order):
    """By its rounds: one of even length turns the sign."""
    seen = set()
    odd = False
    for start in order:
        length = 0
        while start not in seen:
            seen.add(start)
            start = order[start]
            length += 1
        odd ^= length > 0 and length % 2 == 0
    return odd


class Ordinary(unittest.TestCase):
    def test_one_by_one(self):
        for x in (ONE, bits(-7.5), SMALLEST, LARGEST, LARGEST | NEGATIVE_ZERO):
            self.assertEqual(det(1, [x], [0]), [0, x])

    def test_two_by_two(self):
        a = all_bits([3, 9, 9, 5])
        self.assertEqual(det(2, a, [0, 1]), [0, 0x402E000000000000])
        self.assertEqual(det(2, a, [1, 0]), [0, 0xC02E000000000000])

    def test_what_lu_made_handed_on(self):
        self.assertEqual(handed_on(2, all_bits([1, 2, 3, 4])), [0, 0xC000000000000000])
        self.assertEqual(handed_on(3, all_bits([2, 1, 1, 4, 3, 3, 8, 7, 9])), [0, 0x4010000000000000])
        self.assertEqual(handed_on(3, all_bits([0, 1, 0, 0, 0, 1, 1, 0, 0])), [0, bits(1.0)])

    def test_largest_size_with_known_answer(self):
        twos = diagonal([bits(2.0)] * 32)
        self.assertEqual(det(32, twos, list(range(32))), [0, bits(2.0 ** 32)])
        # All 496 pairs stand the wrong way round, then 495.
        turned = list(range(31, -1, -1))
        self.assertEqual(det(32, twos, turned), [0, bits(2.0 ** 32)])
        self.assertEqual(det(32, twos, turned[:30] + [0, 1]), [0, bits(-2.0 ** 32)])

    def test_all_sizes_against_the_machine(self):
        source = seeded(41)
        inputs = [(n, drawn(source, lambda s: native.near_double(s, 4), n * n)) for n in range(1, 33)]
        self.assertEqual(check_same(self, handed_on, native_handed_on, inputs), {0: 32})

    def many(self, source, draw, count):
        for _ in range(count):
            n = source.randint(1, 6)
            yield n, drawn(source, draw, n * n), source.sample(range(n), n)

    def test_any_doubles_against_the_machine(self):
        seen = check_same(self, det, native.det, self.many(seeded(42), native.any_double, 3000))
        self.assertTrue(min(seen.values()) > 100 and sorted(seen) == [-1, 0])

    def test_small_whole_numbers_against_the_machine(self):
        self.assertEqual(check_same(self, det, native.det, self.many(seeded(43), native.small_whole, 2000)), {0: 2000})

    def test_large_numbers_against_the_machine(self):
        seen = check_same(self, det, native.det, self.many(seeded(44), native.large_or_small, 3000))
        self.assertTrue(min(seen.values()) > 100 and sorted(seen) == [-1, 0])


class Orders(unittest.TestCase):
    def test_every_order(self):
        for n in range(1, 7):
            a = diagonal([bits(2.0)] * n)
            for order in itertools.permutations(range(n)):
                expected = -(2.0 ** n) if is_odd(order) else 2.0 ** n
                self.assertEqual(det(n, a, list(order)), [0, bits(expected)], order)

    def test_known_orders(self):
        a = diagonal(all_bits([2, 3, 5]))
        for order in EVEN_ORDERS:
            self.assertEqual(det(3, a, order), [0, bits(30.0)])
        for order in ODD_ORDERS:
            self.assertEqual(det(3, a, order), [0, bits(-30.0)])

    def test_the_diagonal_is_not_put_in_order(self):
        a = diagonal(all_bits([2.0 ** 1000, 2.0 ** -1000, 2.0 ** 1000]))
        for order in EVEN_ORDERS:
            self.assertEqual(det(3, a, order), [0, bits(2.0 ** 1000)])
        for order in ODD_ORDERS:
            self.assertEqual(det(3, a, order), [0, bits(-2.0 ** 1000)])


class Steps(unittest.TestCase):
    def test_from_the_first_on_in_order(self):
        x, y, z = 0.1, 0.2, 0.3
        self.assertNotEqual((x * y) * z, x * (y * z))
        self.assertEqual(along([x, y, z]), [0, bits((x * y) * z)])
        self.assertEqual(along([z, y, x]), [0, bits((z * y) * x)])
        self.assertEqual(along([2.0 ** -600, 2.0 ** -600, 2.0 ** 600]), [0, 0])
        self.assertEqual(along([2.0 ** -600, 2.0 ** 600, 2.0 ** -600]), [0, bits(2.0 ** -600)])

    def test_only_the_diagonal_counts(self):
        for beside in (0, NEGATIVE_ZERO, LARGEST, SMALLEST, bits(-3.0)):
            self.assertEqual(det(3, diagonal(all_bits([2, 3, 5]), beside), [0, 1, 2]), [0, bits(30.0)])

    def test_zero_on_the_diagonal_and_the_sign_of_zero(self):
        for zero in (0, NEGATIVE_ZERO):
            self.assertEqual(det(1, [zero], [0]), [0, zero])
            self.assertEqual(det(2, diagonal([zero, ONE]), [0, 1]), [0, zero])
            self.assertEqual(det(2, diagonal([ONE, zero]), [0, 1]), [0, zero])
            self.assertEqual(det(2, diagonal([ONE, zero]), [1, 0]), [0, zero ^ NEGATIVE_ZERO])
            self.assertEqual(det(2, diagonal([bits(-1.0), zero]), [0, 1]), [0, zero ^ NEGATIVE_ZERO])
            self.assertEqual(det(2, diagonal([bits(-1.0), zero]), [1, 0]), [0, zero])
            for place in range(3):
                a = diagonal(placed(all_bits([2, 3, 5]), place, zero))
                for order in EVEN_ORDERS:
                    self.assertEqual(det(3, a, order), [0, zero])
                for order in ODD_ORDERS:
                    self.assertEqual(det(3, a, order), [0, zero ^ NEGATIVE_ZERO])

    def test_a_product_that_is_lost_keeps_its_sign(self):
        self.assertEqual(det(2, diagonal([SMALLEST, SMALLEST]), [0, 1]), [0, 0])
        self.assertEqual(det(2, diagonal([SMALLEST, SMALLEST]), [1, 0]), [0, NEGATIVE_ZERO])

    def test_results_that_are_not_finite(self):
        self.assertEqual(det(2, diagonal([LARGEST, ONE + 1]), [0, 1]), [-1])
        self.assertEqual(det(2, diagonal([LARGEST, ONE]), [1, 0]), [0, LARGEST | NEGATIVE_ZERO])
        self.assertEqual(along([2.0 ** 512, 2.0 ** 512]), [-1])
        self.assertEqual(along([2.0 ** 512, -2.0 ** 511]), [0, bits(-2.0 ** 1023)])

    def test_a_step_on_the_way_that_is_not_finite(self):
        self.assertEqual(along([2.0 ** 600, 2.0 ** 600, 2.0 ** -600]), [-1])
        self.assertEqual(along([2.0 ** 600, 2.0 ** 600, 0.0]), [-1])
        self.assertEqual(along([0.0, 2.0 ** 600, 2.0 ** 600]), [0, 0])


class Refusals(unittest.TestCase):
    def test_wrong_sizes(self):
        for wrong in WRONG_SIZES:
            self.assertEqual(det(wrong, [], []), [-8])

    def test_wrong_orders(self):
        a = diagonal(all_bits([2, 3, 5]))
        for order in itertools.product((-2147483648, -3, -1, 0, 1, 2, 3, 2147483647), repeat=3):
            right = sorted(order) == [0, 1, 2]
            self.assertEqual(det(3, a, list(order))[0], 0 if right else -8, order)
        for wrong in (1, -1, 2147483647, -2147483648):
            self.assertEqual(det(1, [ONE], [wrong]), [-8])
        self.assertEqual(det(32, diagonal([ONE] * 32), list(range(31)) + [30]), [-8])
        self.assertEqual(det(32, diagonal([ONE] * 32), list(range(1, 33))), [-8])

    def test_a_wrong_order_is_refused_where_the_answer_would_be_zero(self):
        self.assertEqual(det(2, [0, 0, 0, 0], [0, 0]), [-8])

    def test_not_finite_in_each_place(self):
        a = all_bits([1, 2, 3, 4, 5, 6, 7, 8, 10])
        for wrong in NOT_FINITE:
            self.assertEqual(det(1, [wrong], [0]), [-1])
            for place in range(9):
                self.assertEqual(det(3, placed(a, place, wrong), [0, 1, 2]), [-1])
        self.assertEqual(det(32, [0] * 1022 + [NOT_FINITE[0], 0], list(range(32))), [-1])

    def test_doubles_come_before_order(self):
        for wrong in NOT_FINITE:
            self.assertEqual(det(2, [ONE, wrong, 0, ONE], [0, 0]), [-1])
            self.assertEqual(det(1, [wrong], [-1]), [-1])

    def test_order_comes_before_the_steps(self):
        self.assertEqual(det(2, diagonal([LARGEST, LARGEST]), [1, 1]), [-8])
        self.assertEqual(det(2, diagonal([LARGEST, LARGEST]), [0, 2]), [-8])


class Callers(unittest.TestCase):
    def test_what_is_handed_in_stays_and_a_second_call_answers_the_same(self):
        a = diagonal(all_bits([2, 3, 5]))
        for arguments in (
            (3, a, [2, 0, 1]), (3, a, [2, 1, 0]), (3, a, [2, 2, 0]), (3, [NOT_FINITE[1]] * 9, [0, 1, 2]),
            (2, diagonal([LARGEST, LARGEST]), [1, 0]), (0, [], []),
        ):
            check_pure(self, det, *arguments)

    def test_the_answer_is_a_list_of_whole_numbers(self):
        for answer in (det(1, [ONE], [0]), det(1, [0], [1]), det(0, [], [])):
            check_kind(self, answer)


if __name__ == "__main__":
    unittest.main()
