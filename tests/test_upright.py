"""Point 6, upright, and what the document says ahead of it."""

import unittest

from bitmatrix.desk import upright
from tests import native
from tests.checks import check_kind, check_pure, check_same, drawn, placed
from tests.native import LARGEST, NEGATIVE_ZERO, NOT_FINITE, SMALLEST, WRONG_SIZES, all_bits, bits, seeded

ONE = 0x3FF0000000000000


def by_rows(columns):
    return [x for row in zip(*columns, strict=True) for x in row]


def of_columns(*columns):
    return upright(len(columns[0]), len(columns), all_bits(by_rows(columns)))


def told(q_columns, r_rows):
    return [0] + all_bits(by_rows(q_columns)) + all_bits([x for row in r_rows for x in row])


def shapes(source, count):
    for _ in range(count):
        n = source.randint(1, 4)
        yield source.randint(n, 5), n


class Ordinary(unittest.TestCase):
    def test_one_by_one(self):
        self.assertEqual(of_columns([3]), told([[1]], [[3]]))
        self.assertEqual(of_columns([-3]), told([[-1]], [[3]]))

    def test_one_column(self):
        self.assertEqual(of_columns([3, 4]), [0, 0x3FE3333333333333, 0x3FE999999999999A, 0x4014000000000000])

    def test_two_by_two(self):
        self.assertEqual(upright(2, 2, all_bits([3, 1, 4, 2])), [
            0, 0x3FE3333333333333, 0xBFE999999999999D, 0x3FE999999999999A, 0x3FE333333333332F,
            0x4014000000000000, 0x400199999999999A, 0, 0x3FD9999999999998,
        ])

    def test_three_by_two(self):
        self.assertEqual(upright(3, 2, all_bits([1, 1, 1, 2, 1, 3])), [
            0, 0x3FE279A74590331D, 0xBFE6A09E667F3BCF, 0x3FE279A74590331D, 0xBCB6A09E667F3BCC,
            0x3FE279A74590331D, 0x3FE6A09E667F3BC9, 0x3FFBB67AE8584CAA, 0x400BB67AE8584CAC, 0, 0x3FF6A09E667F3BCD,
        ])

    def test_columns_that_stand_upright_already(self):
        columns = [[1, 1, 1, 1], [1, -1, 1, -1], [1, 1, -1, -1]]
        halves = [[x / 2 for x in column] for column in columns]
        self.assertEqual(of_columns(*columns), told(halves, [[2, 0, 0], [0, 2, 0], [0, 0, 2]]))

    def test_q_then_r_each_row_by_row(self):
        # A table of the upper triangular kind is its own r.
        answer = upright(3, 3, all_bits([1, 2, 3, 0, 4, 5, 0, 0, 6]))
        self.assertEqual(answer, told([[1, 0, 0], [0, 1, 0], [0, 0, 1]], [[1, 2, 3], [0, 4, 5], [0, 0, 6]]))
        answer = upright(3, 2, all_bits([0, 2, 0, 0, 4, 8]))
        self.assertEqual(answer, told([[0, 0, 1], [1, 0, 0]], [[4, 8], [0, 2]]))

    def test_largest_size_with_known_answer(self):
        above = all_bits([1 if i % 32 >= i // 32 else 0 for i in range(1024)])
        unit = all_bits([1 if i % 33 == 0 else 0 for i in range(1024)])
        self.assertEqual(upright(32, 32, above), [0] + unit + above)
        self.assertEqual(of_columns([1] * 16 + [0] * 16), told([[0.25] * 16 + [0] * 16], [[4]]))

    def test_all_sizes_against_the_machine(self):
        source = seeded(81)
        inputs = []
        for n in (1, 2, 3, 8, 17, 31, 32):
            for m in sorted({n, min(n + 1, 32), 32}):
                inputs.append((m, n, drawn(source, lambda s: native.near_double(s, 4), m * n)))
        self.assertEqual(check_same(self, upright, native.upright, inputs), {0: len(inputs)})

    def compare(self, seed, draw, count):
        source = seeded(seed)
        inputs = [(m, n, drawn(source, draw, m * n)) for m, n in shapes(source, count)]
        return check_same(self, upright, native.upright, inputs)

    def test_any_doubles_against_the_machine(self):
        seen = self.compare(82, native.any_double, 3000)
        self.assertTrue(min(seen[0], seen[-1], seen[-2]) > 50)

    def test_small_whole_numbers_against_the_machine(self):
        seen = self.compare(83, native.small_whole, 2000)
        self.assertTrue(min(seen[0], seen[-2]) > 50)

    def test_squares_about_the_smallest_against_the_machine(self):
        seen = self.compare(84, lambda s: native.double_between(s, 480, 490), 2000)
        self.assertTrue(min(seen[0], seen[-2]) > 50)

    def test_squares_about_the_largest_against_the_machine(self):
        seen = self.compare(85, lambda s: native.double_between(s, 1528, 1534), 2000)
        self.assertTrue(min(seen[0], seen[-1]) > 100)


class Steps(unittest.TestCase):
    def test_squares_are_put_on_from_the_first_on(self):
        # Each square of 1.25 put on 2^54 is lost; before it, they make up 46.875.
        large = 2.0 ** 27
        self.assertEqual(of_columns([large] + [1.25] * 30)[32], bits(large))
        self.assertEqual(of_columns([1.25] * 30 + [large])[32], bits((2.0 ** 54 + 48) ** 0.5))
        self.assertNotEqual((2.0 ** 54 + 48) ** 0.5, large)

    def test_products_are_put_on_from_the_first_on(self):
        large = 2.0 ** 55
        self.assertEqual(of_columns([1] * 4, [large, 2, 2, 2])[9:11], all_bits([2, large / 2]))
        self.assertEqual(of_columns([1] * 4, [2, 2, 2, large])[9:11], all_bits([2, large / 2 + 4]))

    def test_the_sum_begins_with_its_first_product(self):
        # -0 put on 0 would be 0.
        self.assertEqual(of_columns([1, 0], [-0.0, -1])[6], NEGATIVE_ZERO)

    def test_a_later_columns_sum_is_of_what_is_left_of_it(self):
        # By the columns as they were at first the third number of r's second row would be 0.
        tiny = 2.0 ** -30
        answer = of_columns([1, tiny, 0, 0], [1, 0, tiny, 0], [1, 0, 0, tiny])
        r = answer[13:]
        self.assertEqual(r[:5], all_bits([1, 1, 1, 0, 2.0 ** -30 * 2 ** 0.5]))
        self.assertEqual(r[5], 0x3E06A09E667F3BCC)

    def test_quotients_are_made_not_products(self):
        self.assertNotEqual(3 / 5, 3 * (1 / 5))
        self.assertEqual(of_columns([3, 4])[1:3], all_bits([3 / 5, 4 / 5]))

    def test_product_and_sum_are_not_made_one(self):
        x = 1 + 2.0 ** -27
        self.assertEqual(of_columns([x, x])[3], bits((2 * (1 + 2.0 ** -26)) ** 0.5))
        # r is x here, its product with q's 1 is x, and nothing is left over.
        self.assertEqual(of_columns([1, 0], [x, 1])[2], 0)

    def test_r_below_the_diagonal_is_zero(self):
        answer = upright(3, 3, all_bits([-1, 2, -3, -4, -5, 6, 7, -8, 10]))
        r = answer[10:]
        self.assertEqual([r[3], r[6], r[7]], [0, 0, 0])

    def test_squares_that_are_rounded_below_the_smallest_normal(self):
        self.assertEqual(of_columns([2.0 ** -537]), told([[1]], [[2.0 ** -537]]))
        self.assertEqual(of_columns([1.125 * 2.0 ** -537]), told([[1.125]], [[2.0 ** -537]]))
        self.assertEqual(of_columns([1.5 * 2.0 ** -538, 1.5 * 2.0 ** -538])[3], bits(2.0 ** -536.5))

    def test_results_that_are_not_finite(self):
        self.assertEqual(of_columns([2.0 ** 512]), [-1])
        self.assertEqual(of_columns([2.0 ** 511] * 3), [0] + [0x3FE279A74590331D] * 3 + [bits(2.0 ** 511 * 3 ** 0.5)])
        self.assertEqual(of_columns([2.0 ** 511] * 4), [-1])
        large = native.number(LARGEST)
        # The sum of products, the difference.
        self.assertEqual(of_columns([3, 4], [large, large]), [-1])
        self.assertEqual(of_columns([3, 4], [large, -large]), [-1])


class NoLength(unittest.TestCase):
    def test_a_column_of_zeros(self):
        for zero in (0, NEGATIVE_ZERO):
            self.assertEqual(upright(1, 1, [zero]), [-2])
            self.assertEqual(upright(2, 2, [zero, ONE, zero, ONE]), [-2])
            self.assertEqual(upright(2, 2, [ONE, zero, ONE, zero]), [-2])
            self.assertEqual(upright(32, 32, [zero] * 1024), [-2])

    def test_squares_that_are_lost(self):
        self.assertEqual(upright(1, 1, [SMALLEST]), [-2])
        self.assertEqual(of_columns([2.0 ** -538] * 32), [-2])
        self.assertEqual(of_columns([1, 0], [5, 2.0 ** -538]), [-2])

    def test_a_column_that_the_steps_make_zero(self):
        self.assertEqual(of_columns([1] * 4, [1] * 4), [-2])
        self.assertEqual(of_columns([1] * 4, [-3] * 4), [-2])
        self.assertEqual(of_columns([1, 0, 0], [0, 1, 0], [5, 7, 0]), [-2])


class Refusals(unittest.TestCase):
    def test_wrong_sizes(self):
        for wrong in WRONG_SIZES:
            self.assertEqual(upright(wrong, 1, []), [-8])
            self.assertEqual(upright(32, wrong, []), [-8])
            self.assertEqual(upright(1, wrong, []), [-8])
            for other in WRONG_SIZES:
                self.assertEqual(upright(wrong, other, []), [-8])

    def test_fewer_rows_than_columns(self):
        for m, n in ((1, 2), (2, 3), (1, 32), (31, 32)):
            self.assertEqual(upright(m, n, [ONE] * (m * n)), [-8])
        self.assertEqual(upright(2, 1, [ONE] * 2)[0], 0)

    def test_not_finite_in_each_place(self):
        a = all_bits([1, 2, 3, 4, 5, 7])
        self.assertEqual(upright(3, 2, a)[0], 0)
        for wrong in NOT_FINITE:
            self.assertEqual(upright(1, 1, [wrong]), [-1])
            for place in range(6):
                self.assertEqual(upright(3, 2, placed(a, place, wrong)), [-1])
        self.assertEqual(upright(32, 32, [0] * 1023 + [NOT_FINITE[0]]), [-1])

    def test_sizes_come_before_doubles(self):
        for wrong in NOT_FINITE:
            self.assertEqual(upright(1, 2, [ONE, wrong]), [-8])
            self.assertEqual(upright(31, 32, [wrong] * 992), [-8])

    def test_a_double_that_is_not_finite_comes_before_a_column_of_zeros(self):
        for wrong in NOT_FINITE:
            self.assertEqual(upright(2, 2, [0, 0, 0, wrong]), [-1])

    def test_of_steps_and_zeros_what_comes_first(self):
        large = native.number(LARGEST)
        # What the first column takes from the third is not finite, and the second is zero.
        self.assertEqual(of_columns([3, 4, 0], [0, 0, 0], [large, -large, 0]), [-1])
        # The first is zero, and the second's squares would not be finite.
        self.assertEqual(of_columns([0, 0], [large, 0]), [-2])
        # The second is zero, and the third's squares would not be finite.
        self.assertEqual(of_columns([1, 0, 0], [0, 0, 0], [0, 0, large]), [-2])
        self.assertEqual(of_columns([1, 0, 0], [0, 0, large], [0, 0, 0]), [-1])


class Callers(unittest.TestCase):
    def test_what_is_handed_in_stays_and_a_second_call_answers_the_same(self):
        for arguments in (
            (3, 2, all_bits([1, 2, 3, 4, 5, 7])), (2, 2, all_bits([3, 1, 4, 2])), (2, 2, [0] * 4), (1, 2, [ONE] * 2),
            (1, 1, [LARGEST]), (2, 1, [NOT_FINITE[2]] * 2), (33, 1, []),
        ):
            check_pure(self, upright, *arguments)

    def test_the_answer_is_a_list_of_whole_numbers(self):
        for answer in (upright(1, 1, [ONE]), upright(1, 1, [0]), upright(0, 1, [])):
            check_kind(self, answer)


if __name__ == "__main__":
    unittest.main()
