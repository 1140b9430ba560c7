"""Point 7, least, and what the document says ahead of it."""

import unittest

from bitmatrix.desk import least
from tests import native
from tests.checks import check_kind, check_pure, check_same, drawn, placed
from tests.native import LARGEST, NEGATIVE_ZERO, NOT_FINITE, SMALLEST, WRONG_SIZES, all_bits, bits, seeded
from tests.test_upright import by_rows, shapes

ONE = 0x3FF0000000000000
LARGE = 2.0 ** 53


def of_columns(columns, b):
    return least(len(b), len(columns), all_bits(by_rows(columns)), all_bits(b))


def told(numbers):
    return [0] + all_bits(numbers)


class Ordinary(unittest.TestCase):
    def test_one_by_one(self):
        self.assertEqual(of_columns([[4]], [3]), told([0.75]))
        self.assertEqual(of_columns([[-4]], [3]), told([-0.75]))
        self.assertEqual(of_columns([[3]], [1]), [0, 0x3FD5555555555555])

    def test_one_column(self):
        self.assertEqual(of_columns([[1, 1, 1, 1]], [1, 2, 3, 6]), told([3]))
        # 0.6 + 1.6 by 5, each rounded.
        self.assertEqual(of_columns([[3, 4]], [1, 2]), [0, 0x3FDC28F5C28F5C2A])

    def test_a_line_through_three_points(self):
        answer = least(3, 2, all_bits([1, 1, 1, 2, 1, 3]), all_bits([1, 2, 2]))
        self.assertEqual(answer, [0, 0x3FE5555555555556, 0x3FDFFFFFFFFFFFFF])

    def test_columns_that_stand_upright_already(self):
        columns = [[1, 1, 1, 1], [1, -1, 1, -1], [1, 1, -1, -1]]
        self.assertEqual(of_columns(columns, [4, 8, 16, 0]), told([7, 3, -1]))

    def test_as_many_rows_as_columns(self):
        self.assertEqual(of_columns([[2, 0], [0, 4]], [6, 8]), told([3, 2]))
        self.assertEqual(of_columns([[0, 2], [4, 0]], [8, 6]), told([3, 2]))
        self.assertEqual(least(3, 3, all_bits([1, 2, 3, 0, 4, 5, 0, 0, 2]), all_bits([14, 23, 6])), told([1, 2, 3]))

    def test_largest_size_with_known_answer(self):
        above = all_bits([1 if i % 32 >= i // 32 else 0 for i in range(1024)])
        self.assertEqual(least(32, 32, above, all_bits(range(32, 0, -1))), told([1] * 32))
        self.assertEqual(of_columns([[1] * 16 + [0] * 16], list(range(32))), told([7.5]))

    def test_all_sizes_against_the_machine(self):
        source = seeded(91)
        inputs = []
        for n in (1, 2, 3, 8, 17, 31, 32):
            for m in sorted({n, min(n + 1, 32), 32}):
                a = drawn(source, lambda s: native.near_double(s, 4), m * n)
                inputs.append((m, n, a, drawn(source, lambda s: native.near_double(s, 4), m)))
        self.assertEqual(check_same(self, least, native.least, inputs), {0: len(inputs)})

    def compare(self, seed, draw, count):
        source = seeded(seed)
        inputs = [(m, n, drawn(source, draw, m * n), drawn(source, draw, m)) for m, n in shapes(source, count)]
        return check_same(self, least, native.least, inputs)

    def test_any_doubles_against_the_machine(self):
        seen = self.compare(92, native.any_double, 3000)
        self.assertTrue(min(seen[0], seen[-1], seen[-2]) > 50)

    def test_small_whole_numbers_against_the_machine(self):
        seen = self.compare(93, native.small_whole, 2000)
        self.assertTrue(min(seen[0], seen[-2]) > 50)

    def test_squares_about_the_smallest_against_the_machine(self):
        seen = self.compare(94, lambda s: native.double_between(s, 480, 490), 2000)
        self.assertTrue(min(seen[0], seen[-2]) > 50)

    def test_numbers_about_the_largest_against_the_machine(self):
        source = seeded(95)
        inputs = []
        for m, n in shapes(source, 2000):
            a = drawn(source, lambda s: native.near_double(s, 1), m * n)
            inputs.append((m, n, a, drawn(source, lambda s: native.double_between(s, 2044, 2046), m)))
        seen = check_same(self, least, native.least, inputs)
        self.assertTrue(min(seen[0], seen[-1]) > 100)


class Steps(unittest.TestCase):
    def test_products_with_b_are_put_on_from_the_first_on(self):
        large = 2.0 ** 55
        self.assertEqual(of_columns([[1] * 4], [large, 2, 2, 2]), told([large / 4]))
        self.assertEqual(of_columns([[1] * 4], [2, 2, 2, large]), told([large / 4 + 2]))

    def test_a_later_columns_sum_is_of_what_is_left_of_b(self):
        # By b as it was at first the second number would be 0.
        tiny = 2.0 ** -30
        answer = of_columns([[1, tiny, 0, 0], [1, 0, tiny, 0]], [1, 0, 0, 0])
        self.assertEqual(answer, native.least(4, 2, all_bits([1, 1, tiny, 0, 0, tiny, 0, 0]), all_bits([1, 0, 0, 0])))
        self.assertTrue(abs(native.number(answer[2]) - 0.5) < 2.0 ** -50)

    def test_x_is_made_from_the_nearest_on(self):
        self.assertEqual(of_columns([[1, 0, 0], [-1, 1, 0], [-2, 0, 1]], [LARGE, 1, 1]), told([LARGE + 2, 1, 1]))
        self.assertEqual(of_columns([[1, 0, 0], [-2, 1, 0], [-1, 0, 1]], [LARGE, 1, 1]), told([LARGE + 4, 1, 1]))

    def test_x_is_a_quotient_not_a_product(self):
        self.assertNotEqual(5 / 49, 5 * (1 / 49))
        self.assertEqual(of_columns([[49]], [5]), told([5 / 49]))

    def test_signs_of_zero(self):
        self.assertEqual(least(1, 1, [ONE], [NEGATIVE_ZERO]), [0, NEGATIVE_ZERO])
        self.assertEqual(least(1, 1, [bits(-2.0)], [NEGATIVE_ZERO]), [0, 0])
        self.assertEqual(least(1, 1, [bits(-2.0)], [0]), [0, NEGATIVE_ZERO])
        # The sum begins with its first product: -0 put on 0 would be 0.
        self.assertEqual(of_columns([[1, 0]], [-0.0, -1]), told([-0.0]))

    def test_quotients_by_a_very_small_diagonal(self):
        tiny = 2.0 ** -537
        self.assertEqual(of_columns([[tiny]], [2.0 ** 486]), told([2.0 ** 1023]))
        self.assertEqual(of_columns([[tiny]], [2.0 ** 487]), [-1])
        self.assertEqual(of_columns([[1, 0], [0, tiny]], [0, 2.0 ** 487]), [-1])
        self.assertEqual(of_columns([[tiny, 0], [0, 1]], [2.0 ** 487, 0]), [-1])

    def test_results_that_are_not_finite(self):
        large = native.number(LARGEST)
        self.assertEqual(of_columns([[3, 4]], [large, large]), [-1])
        self.assertEqual(of_columns([[0.5]], [large]), [-1])
        self.assertEqual(of_columns([[1]], [large]), told([large]))
        # A product and a difference of x.
        self.assertEqual(of_columns([[1, 0], [4, 1]], [0, large]), [-1])
        self.assertEqual(of_columns([[1, 0], [-1, 1]], [large, large]), [-1])
        # A square of a column.
        self.assertEqual(of_columns([[2.0 ** 512]], [0]), [-1])

    def test_what_the_last_column_takes_from_b_is_not_passed_over(self):
        # The sum is about -0.2 of the largest; less that times 0.6 the first of b is not finite.
        large = native.number(LARGEST)
        self.assertEqual(of_columns([[3, 4]], [large, -large]), [-1])
        self.assertEqual(of_columns([[3, 4]], [large / 2, -large / 2])[0], 0)


class Refusals(unittest.TestCase):
    def test_wrong_sizes(self):
        for wrong in WRONG_SIZES:
            self.assertEqual(least(wrong, 1, [], []), [-8])
            self.assertEqual(least(3, wrong, [], [ONE] * 3), [-8])
            self.assertEqual(least(32, wrong, [], [ONE] * 32), [-8])
            for other in WRONG_SIZES:
                self.assertEqual(least(wrong, other, [], []), [-8])

    def test_fewer_rows_than_columns(self):
        for m, n in ((1, 2), (2, 3), (1, 32), (31, 32)):
            self.assertEqual(least(m, n, [ONE] * (m * n), [ONE] * m), [-8])
        self.assertEqual(least(2, 1, [ONE] * 2, [ONE] * 2)[0], 0)

    def test_not_finite_in_each_place_of_each_list(self):
        a = all_bits([1, 2, 3, 4, 5, 7])
        b = all_bits([1, 2, 4])
        self.assertEqual(least(3, 2, a, b)[0], 0)
        for wrong in NOT_FINITE:
            for place in range(6):
                self.assertEqual(least(3, 2, placed(a, place, wrong), b), [-1])
            for place in range(3):
                self.assertEqual(least(3, 2, a, placed(b, place, wrong)), [-1])
        self.assertEqual(least(32, 32, [0] * 1023 + [NOT_FINITE[0]], [0] * 32), [-1])
        self.assertEqual(least(32, 32, [0] * 1024, [0] * 31 + [NOT_FINITE[0]]), [-1])

    def test_sizes_come_before_doubles(self):
        for wrong in NOT_FINITE:
            self.assertEqual(least(1, 2, [ONE, wrong], [ONE]), [-8])
            self.assertEqual(least(1, 2, [ONE, ONE], [wrong]), [-8])
            self.assertEqual(least(1, 33, [], [wrong]), [-8])

    def test_a_column_without_length(self):
        self.assertEqual(of_columns([[0, 0]], [1, 2]), [-2])
        self.assertEqual(of_columns([[1] * 4, [1] * 4], [1, 2, 3, 4]), [-2])
        self.assertEqual(least(1, 1, [SMALLEST], [ONE]), [-2])
        self.assertEqual(least(32, 32, [NEGATIVE_ZERO] * 1024, [ONE] * 32), [-2])

    def test_a_double_that_is_not_finite_comes_before_a_column_without_length(self):
        for wrong in NOT_FINITE:
            self.assertEqual(least(2, 1, [0, 0], [ONE, wrong]), [-1])
            self.assertEqual(least(2, 1, [0, wrong], [ONE, ONE]), [-1])

    def test_of_steps_and_columns_without_length_what_comes_first(self):
        large = native.number(LARGEST)
        # The first column's sum with b would not be finite, but all columns are made before.
        self.assertEqual(of_columns([[3, 4], [0, 0]], [large, large]), [-2])
        self.assertEqual(of_columns([[3, 4, 0], [0, 0, 0], [large, -large, 0]], [1, 2, 3]), [-1])
        self.assertEqual(of_columns([[0, 0], [large, 0]], [1, 2]), [-2])


class Callers(unittest.TestCase):
    def test_what_is_handed_in_stays_and_a_second_call_answers_the_same(self):
        b = all_bits([1, 2, 4])
        for arguments in (
            (3, 2, all_bits([1, 2, 3, 4, 5, 7]), b), (3, 1, all_bits([1, 2, 3]), b), (3, 3, [0] * 9, b),
            (2, 3, [ONE] * 6, b[:2]), (1, 1, [LARGEST], [ONE]), (1, 1, [ONE], [NOT_FINITE[2]]), (3, 33, [], b),
        ):
            check_pure(self, least, *arguments)

    def test_the_answer_is_a_list_of_whole_numbers(self):
        for answer in (least(1, 1, [ONE], [ONE]), least(1, 1, [0], [0]), least(0, 1, [], [])):
            check_kind(self, answer)


if __name__ == "__main__":
    unittest.main()
