"""Point 1, product, and what the document says ahead of it."""

import unittest

from bitmatrix.desk import product
from tests import native
from tests.checks import check_kind, check_pure
from tests.native import (
    LARGEST, NEGATIVE_ZERO, NOT_FINITE, SMALLEST, SMALLEST_NORMAL, WRONG_SIZES, all_bits, bits, seeded,
)

SIZES = (1, 2, 3, 5, 8, 31, 32)


def table(source, draw, count):
    return [draw(source) for _ in range(count)]


def dot(xs, ys):
    return product(1, len(xs), 1, xs, ys)


class Ordinary(unittest.TestCase):
    def test_two_by_two(self):
        answer = product(2, 2, 2, all_bits([1, 2, 3, 4]), all_bits([5, 6, 7, 8]))
        self.assertEqual(answer, [0, 0x4033000000000000, 0x4036000000000000, 0x4045800000000000, 0x4049000000000000])

    def test_two_by_three_by_four_stand_row_by_row(self):
        a = all_bits([1, 2, 3, 4, 5, 6])
        b = all_bits([1, 2, 3, 4, 5, 6, 7, 8, 9, 10, 11, 12])
        self.assertEqual(product(2, 3, 4, a, b), [0] + all_bits([38, 44, 50, 56, 83, 98, 113, 128]))

    def test_a_tenth_thrice(self):
        tenth = 0x3FB999999999999A
        one = 0x3FF0000000000000
        self.assertEqual(dot([tenth] * 3, [one] * 3), [0, 0x3FD3333333333334])

    def test_one_by_one(self):
        self.assertEqual(product(1, 1, 1, all_bits([-1.5]), all_bits([2.5])), [0, 0xC00E000000000000])

    def test_largest_size_with_known_answer(self):
        one = 0x3FF0000000000000
        unit = [one if i % 33 == 0 else 0 for i in range(1024)]
        a = all_bits(range(-500, 524))
        self.assertEqual(product(32, 32, 32, a, unit), [0] + a)
        self.assertEqual(product(32, 32, 32, unit, a), [0] + a)
        self.assertEqual(product(32, 32, 32, [one] * 1024, [one] * 1024), [0] + [bits(32.0)] * 1024)

    def test_all_sizes_against_the_machine(self):
        source = seeded(11)
        for n in SIZES:
            for m in SIZES:
                for k in SIZES:
                    a = table(source, lambda s: native.near_double(s, 40), n * m)
                    b = table(source, lambda s: native.near_double(s, 40), m * k)
                    self.assertEqual(product(n, m, k, a, b), native.product(n, m, k, a, b), (n, m, k))

    def test_any_doubles_against_the_machine(self):
        source = seeded(12)
        refused = 0
        for _ in range(3000):
            n, m, k = source.randint(1, 3), source.randint(1, 3), source.randint(1, 3)
            a = table(source, native.any_double, n * m)
            b = table(source, native.any_double, m * k)
            answer = product(n, m, k, a, b)
            self.assertEqual(answer, native.product(n, m, k, a, b), (n, m, k, a, b))
            refused += answer == [-1]
        self.assertTrue(300 < refused < 2700)

    def test_zeros_against_the_machine(self):
        source = seeded(13)
        for _ in range(1000):
            a = table(source, native.small_whole, 6)
            b = table(source, native.small_whole, 6)
            self.assertEqual(product(2, 3, 2, a, b), native.product(2, 3, 2, a, b))


class Steps(unittest.TestCase):
    def test_the_order_is_from_the_first_on(self):
        large = 2.0 ** 53
        self.assertEqual(dot(all_bits([large, 1, 1]), all_bits([1, 1, 1])), [0, bits(large)])
        self.assertEqual(dot(all_bits([1, 1, large]), all_bits([1, 1, 1])), [0, bits(large + 2)])

    def test_product_and_sum_are_not_made_one(self):
        x = 1 + 2.0 ** -27
        rounded_square = 1 + 2.0 ** -26
        self.assertEqual(dot(all_bits([-rounded_square, x]), all_bits([1, x])), [0, 0])
        self.assertEqual(dot(all_bits([x, -rounded_square]), all_bits([x, 1])), [0, 0])

    def test_ties_go_to_even(self):
        half_unit = 2.0 ** -53
        ones = all_bits([1, 1])
        self.assertEqual(dot(all_bits([1, half_unit]), ones), [0, 0x3FF0000000000000])
        self.assertEqual(dot([0x3FF0000000000001, bits(half_unit)], ones), [0, 0x3FF0000000000002])
        self.assertEqual(dot([0x3FF0000000000000, bits(half_unit) + 1], ones), [0, 0x3FF0000000000001])
        self.assertEqual(dot([0x3FF0000000000001], [0x3FF8000000000000]), [0, 0x3FF8000000000002])

    def test_below_the_smallest_normal(self):
        half = bits(0.5)
        self.assertEqual(dot([SMALLEST], [half]), [0, 0])
        self.assertEqual(dot([3], [half]), [0, 2])
        self.assertEqual(dot([SMALLEST], [half + 1]), [0, SMALLEST])
        self.assertEqual(dot([SMALLEST_NORMAL - 1, SMALLEST], all_bits([1, 1])), [0, SMALLEST_NORMAL])
        self.assertEqual(dot([SMALLEST_NORMAL, SMALLEST], all_bits([1, -1])), [0, SMALLEST_NORMAL - 1])
        # Two halves of the smallest are lost one by one: each product is rounded by itself.
        self.assertEqual(dot([SMALLEST, SMALLEST], [half, half]), [0, 0])

    def test_signs_of_zero(self):
        one = bits(1.0)
        less = bits(-1.0)
        self.assertEqual(dot([NEGATIVE_ZERO], [one]), [0, NEGATIVE_ZERO])
        self.assertEqual(dot([0], [less]), [0, NEGATIVE_ZERO])
        self.assertEqual(dot([NEGATIVE_ZERO], [less]), [0, 0])
        self.assertEqual(dot([NEGATIVE_ZERO, 0], [one, less]), [0, NEGATIVE_ZERO])
        self.assertEqual(dot([NEGATIVE_ZERO, 0], [one, one]), [0, 0])
        self.assertEqual(dot([0, NEGATIVE_ZERO], [one, one]), [0, 0])
        self.assertEqual(dot([one, less], [one, one]), [0, 0])
        self.assertEqual(dot([less, one], [one, one]), [0, 0])
        self.assertEqual(dot([SMALLEST], [SMALLEST | NEGATIVE_ZERO]), [0, NEGATIVE_ZERO])

    def test_just_finite_and_no_longer(self):
        ones = all_bits([1, 1])
        half_unit = bits(2.0 ** 970)
        self.assertEqual(dot([LARGEST, half_unit - 1], ones), [0, LARGEST])
        self.assertEqual(dot([LARGEST, half_unit], ones), [-1])
        self.assertEqual(dot([LARGEST | NEGATIVE_ZERO, half_unit], all_bits([1, -1])), [-1])
        self.assertEqual(dot([LARGEST], [0x3FF0000000000001]), [-1])
        self.assertEqual(dot(all_bits([2.0 ** 512]), all_bits([2.0 ** 512])), [-1])
        self.assertEqual(dot(all_bits([2.0 ** 512]), all_bits([2.0 ** 511])), [0, 0x7FE0000000000000])

    def test_a_step_on_the_way_that_is_not_finite(self):
        ones = all_bits([1, 1, 1])
        less = LARGEST | NEGATIVE_ZERO
        self.assertEqual(dot([LARGEST, LARGEST, less], ones), [-1])
        self.assertEqual(dot([LARGEST, less, LARGEST], ones), [0, LARGEST])
        self.assertEqual(dot([less, LARGEST], all_bits([1, 2])), [-1])

    def test_one_number_that_is_not_finite_refuses_all(self):
        a = all_bits([1, 1, 1, 1]) + [LARGEST]
        self.assertEqual(product(5, 1, 1, a, all_bits([2])), [-1])


class Refusals(unittest.TestCase):
    def test_wrong_sizes(self):
        x = bits(3.0)
        for wrong in WRONG_SIZES:
            self.assertEqual(product(wrong, 2, 2, [], [x] * 4), [-8])
            self.assertEqual(product(2, wrong, 2, [], []), [-8])
            self.assertEqual(product(2, 2, wrong, [x] * 4, []), [-8])
            self.assertEqual(product(wrong, wrong, 1, [], []), [-8])
            self.assertEqual(product(wrong, wrong, wrong, [], []), [-8])

    def test_sizes_at_the_ends(self):
        x = bits(3.0)
        nine = bits(9.0)
        self.assertEqual(product(32, 1, 1, [x] * 32, [x]), [0] + [nine] * 32)
        self.assertEqual(product(1, 32, 1, [x] * 32, [x] * 32), [0, bits(288.0)])
        self.assertEqual(product(1, 1, 32, [x], [x] * 32), [0] + [nine] * 32)

    def test_not_finite_in_each_place_of_each_list(self):
        for wrong in NOT_FINITE:
            for place in range(6):
                a = all_bits([1, 2, 3, 4, 5, 6])
                b = all_bits([0, 0, 0, 0, 0, 0])
                a[place] = wrong
                self.assertEqual(product(2, 3, 2, a, b), [-1])
                self.assertEqual(product(2, 3, 2, b, a), [-1])
                self.assertEqual(product(2, 3, 2, a, a), [-1])

    def test_not_finite_in_the_last_of_the_largest(self):
        zeros = [0] * 1024
        self.assertEqual(product(32, 32, 32, zeros[:-1] + [NOT_FINITE[0]], zeros), [-1])
        self.assertEqual(product(32, 32, 32, zeros, zeros[:-1] + [NOT_FINITE[0]]), [-1])

    def test_sizes_come_before_doubles(self):
        for wrong in NOT_FINITE:
            for size in WRONG_SIZES:
                self.assertEqual(product(size, 1, 1, [], [wrong]), [-8])
                self.assertEqual(product(1, 1, size, [wrong], []), [-8])


class Callers(unittest.TestCase):
    def test_what_is_handed_in_stays_and_a_second_call_answers_the_same(self):
        source = seeded(14)
        a = table(source, native.any_double, 12)
        b = table(source, native.small_whole, 8)
        refused = all_bits([1, 2, 3]) + [LARGEST]
        for arguments in ((3, 4, 2, a, b), (2, 2, 2, refused, refused), (0, 2, 2, [], b[:4]), (1, 1, 1, [0], [0])):
            check_pure(self, product, *arguments)

    def test_both_lists_may_be_the_same_one(self):
        a = all_bits([1, 2, 3, 4])
        self.assertEqual(product(2, 2, 2, a, a), [0] + all_bits([7, 10, 15, 22]))
        self.assertEqual(a, all_bits([1, 2, 3, 4]))

    def test_the_answer_is_a_list_of_whole_numbers(self):
        for answer in (product(1, 1, 1, [0], [0]), product(0, 1, 1, [], [0])):
            check_kind(self, answer)


if __name__ == "__main__":
    unittest.main()
