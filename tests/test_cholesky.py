"""Point 5, cholesky, and what the document says ahead of it."""

import unittest

from bitmatrix.desk import cholesky
from tests import native
from tests.checks import check_kind, check_pure, check_same, drawn, placed, same_turned_about
from tests.native import (
    LARGEST, NEGATIVE_ZERO, NOT_FINITE, SMALLEST, SMALLEST_NORMAL, WRONG_SIZES, all_bits, bits, seeded,
)

ONE = 0x3FF0000000000000
LESS = 0xBFF0000000000000


def made(n, numbers):
    return cholesky(n, all_bits(numbers))


def told(numbers):
    return [0] + all_bits(numbers)


def of_rows(n, *below):
    return cholesky(n, same_turned_about(n, all_bits(below)))


def likely(source, n, draw):
    """A table that's the same turned about, whose diagonal is mostly large enough."""
    a = same_turned_about(n, drawn(source, draw, n * (n + 1) // 2))
    for i in range(n):
        a[i * n + i] = bits(source.uniform(0.5, 4) * n * max(abs(native.number(x)) for x in a[i * n:i * n + n]))
    return a


class Ordinary(unittest.TestCase):
    def test_one_by_one(self):
        self.assertEqual(made(1, [9]), [0, 0x4008000000000000])
        self.assertEqual(made(1, [2]), [0, 0x3FF6A09E667F3BCD])
        self.assertEqual(cholesky(1, [SMALLEST]), [0, 0x1E60000000000000])
        self.assertEqual(cholesky(1, [LARGEST]), [0, 0x5FEFFFFFFFFFFFFF])

    def test_two_by_two(self):
        self.assertEqual(made(2, [4, 2, 2, 3]), [0, 0x4000000000000000, 0, 0x3FF0000000000000, 0x3FF6A09E667F3BCD])

    def test_three_by_three(self):
        a = [4, 12, -16, 12, 37, -43, -16, -43, 98]
        self.assertEqual(made(3, a), told([2, 0, 0, 6, 1, 0, -8, 5, 3]))

    def test_three_by_three_that_is_rounded(self):
        self.assertEqual(made(3, [2, 1, 0, 1, 2, 1, 0, 1, 2]), [
            0, 0x3FF6A09E667F3BCD, 0, 0, 0x3FE6A09E667F3BCC, 0x3FF3988E1409212E, 0,
            0, 0x3FEA20BD700C2C3F, 0x3FF279A74590331C,
        ])

    def test_largest_size_with_known_answer(self):
        # Ones from the first on to the diagonal: row by row they have the lesser length in common.
        a = [min(i // 32, i % 32) + 1 for i in range(1024)]
        below = [1 if i % 32 <= i // 32 else 0 for i in range(1024)]
        self.assertEqual(made(32, a), told(below))

    def test_all_sizes_against_the_machine(self):
        source = seeded(71)
        inputs = [(n, likely(source, n, lambda s: native.near_double(s, 4))) for n in range(1, 33)]
        self.assertEqual(check_same(self, cholesky, native.cholesky, inputs), {0: 32})

    def test_tables_that_may_fail_against_the_machine(self):
        source = seeded(72)
        inputs = []
        for _ in range(2000):
            n = source.randint(1, 5)
            inputs.append((n, likely(source, n, native.near_double_or_zero)))
        for i, (n, a) in enumerate(inputs[:1000]):
            inputs[i] = (n, placed(a, (n + 1) * source.randrange(n), bits(source.uniform(0, 2))))
        seen = check_same(self, cholesky, native.cholesky, inputs)
        self.assertTrue(min(seen[0], seen[-2]) > 100)

    def test_any_doubles_against_the_machine(self):
        source = seeded(73)
        inputs = []
        for _ in range(3000):
            n = source.randint(1, 3)
            inputs.append((n, same_turned_about(n, drawn(source, native.any_double, n * (n + 1) // 2))))
        seen = check_same(self, cholesky, native.cholesky, inputs)
        self.assertTrue(min(seen[0], seen[-1], seen[-2]) > 100)

    def test_large_numbers_against_the_machine(self):
        source = seeded(74)
        inputs = []
        for _ in range(3000):
            n = source.randint(1, 3)
            a = same_turned_about(n, drawn(source, native.large_or_small, n * (n + 1) // 2))
            inputs.append((n, [x & ~NEGATIVE_ZERO if i % (n + 1) == 0 else x for i, x in enumerate(a)]))
        seen = check_same(self, cholesky, native.cholesky, inputs)
        self.assertTrue(min(seen[0], seen[-1], seen[-2]) > 50)


class Steps(unittest.TestCase):
    def test_squares_are_taken_from_the_first_on(self):
        # 2^54 + 4 less 2.25 is 2^54, as doubles there lie 4 apart; with 2^54 taken first 1.75 is left.
        large = 2.0 ** 27
        self.assertEqual(of_rows(3, 1, 0, 1, 1.5, large, 2.0 ** 54 + 4), [-2])
        answer = of_rows(3, 1, 0, 1, large, 1.5, 2.0 ** 54 + 4)
        self.assertEqual(answer, told([1, 0, 0, 0, 1, 0, large, 1.5])[:9] + [bits(1.75 ** 0.5)])

    def test_products_are_taken_from_the_first_on(self):
        large = 2.0 ** 54
        first = [1, 0, 1, 1, 1, 3]
        answer = of_rows(4, *first, 2.25, large, large + 4, 2.0 ** 110)
        self.assertEqual(answer[13:16], all_bits([2.25, large, 0]))
        answer = of_rows(4, *first, large, 2.25, large + 4, 2.0 ** 110)
        self.assertEqual(answer[13:16], all_bits([large, 2.25, 1.75]))

    def test_product_and_difference_are_not_made_one(self):
        x = 1 + 2.0 ** -27
        square = 1 + 2.0 ** -26
        self.assertEqual(of_rows(2, 1, x, square), [-2])
        self.assertEqual(of_rows(3, 1, x, 4, x, square, 4)[8], 0)

    def test_the_number_below_is_a_quotient_by_the_root(self):
        self.assertNotEqual(5 / 49, 5 * (1 / 49))
        self.assertEqual(of_rows(2, 2401, 5, 1)[3], bits(5 / 49))
        # 1 by the root of 2, not the root of a half.
        self.assertEqual(of_rows(2, 2, 1, 4)[3], 0x3FE6A09E667F3BCC)

    def test_above_the_diagonal_is_zero(self):
        for x in (0, NEGATIVE_ZERO, bits(0.5), bits(-0.5), SMALLEST):
            self.assertEqual(cholesky(2, [ONE, x, x, ONE])[2], 0)
        self.assertEqual(of_rows(3, 4, 2, 5, 2, 3, 6), told([2, 0, 0, 1, 2, 0, 1, 1, 2]))

    def test_signs_of_zero_below(self):
        self.assertEqual(cholesky(2, [ONE, NEGATIVE_ZERO, NEGATIVE_ZERO, ONE]), [0, ONE, 0, NEGATIVE_ZERO, ONE])
        # -0 less 0 times 1 stays -0; less 0 times -1, that's -0, it is 0.
        self.assertEqual(of_rows(3, 1, 0, 1, 1, -0.0, 4)[8], NEGATIVE_ZERO)
        self.assertEqual(of_rows(3, 1, 0, 1, -1, -0.0, 4)[8], 0)

    def test_below_the_smallest_normal(self):
        self.assertEqual(cholesky(2, [bits(4.0), 3, 3, ONE]), [0, bits(2.0), 0, 2, ONE])
        self.assertEqual(cholesky(2, [bits(4.0), SMALLEST, SMALLEST, ONE]), [0, bits(2.0), 0, 0, ONE])
        self.assertEqual(cholesky(1, [SMALLEST_NORMAL]), [0, 0x2000000000000000])

    def test_results_that_are_not_finite(self):
        # The quotient by a very small root, a square, a difference, a product.
        self.assertEqual(cholesky(2, [SMALLEST, LARGEST, LARGEST, ONE]), [-1])
        self.assertEqual(of_rows(2, 1, 2.0 ** 512, 1), [-1])
        self.assertEqual(of_rows(2, 1, -2.0 ** 511, 2.0 ** 1023), told([1, 0, -2.0 ** 511, 2.0 ** 511]))
        self.assertEqual(of_rows(2, 1, 1.4 * 2.0 ** 511, -1.5 * 2.0 ** 1023), [-1])
        large = 2.0 ** 500
        self.assertEqual(of_rows(3, 1, large, large * large * 2, 2.0 ** 600, 0, 1), [-1])
        self.assertEqual(of_rows(3, 1, large, large * large * 2, 2.0 ** 523, -1.5 * 2.0 ** 1023, 1), [-1])


class NotAboveZero(unittest.TestCase):
    def test_given_so(self):
        for x in (0, NEGATIVE_ZERO, SMALLEST | NEGATIVE_ZERO, LESS, LARGEST | NEGATIVE_ZERO):
            self.assertEqual(cholesky(1, [x]), [-2])
            self.assertEqual(cholesky(2, [x, 0, 0, ONE]), [-2])
            self.assertEqual(cholesky(2, [ONE, 0, 0, x]), [-2])
            self.assertEqual(cholesky(32, [x if i == 1023 else ONE if i % 33 == 0 else 0 for i in range(1024)]), [-2])

    def test_made_so(self):
        self.assertEqual(of_rows(2, 1, 1, 1), [-2])
        self.assertEqual(of_rows(2, 1, 2, 3), [-2])
        self.assertEqual(of_rows(3, 1, 1, 2, 1, 1, 1), [-2])
        self.assertEqual(made(32, [1] * 1024), [-2])

    def test_just_above(self):
        self.assertEqual(cholesky(2, [ONE, ONE, ONE, ONE + 1]), [0, ONE, 0, ONE, bits(2.0 ** -26)])
        self.assertEqual(cholesky(2, [ONE, 0, 0, SMALLEST]), [0, ONE, 0, 0, 0x1E60000000000000])


class Refusals(unittest.TestCase):
    def test_wrong_sizes(self):
        for wrong in WRONG_SIZES:
            self.assertEqual(cholesky(wrong, []), [-8])

    def test_not_the_same_turned_about(self):
        self.assertEqual(made(2, [4, 1, 2, 4]), [-8])
        self.assertEqual(made(2, [4, -1, 1, 4]), [-8])
        a = all_bits([9 if i % 33 == 0 else 0.25 for i in range(1024)])
        self.assertEqual(cholesky(32, a)[0], 0)
        for place in (1, 31, 32, 62, 992, 1022):
            self.assertEqual(cholesky(32, placed(a, place, bits(0.25) + 1)), [-8])

    def test_bits_that_differ_alone(self):
        self.assertEqual(cholesky(2, [ONE, 0, NEGATIVE_ZERO, ONE]), [-8])
        self.assertEqual(cholesky(2, [ONE, NEGATIVE_ZERO, 0, ONE]), [-8])
        self.assertEqual(cholesky(3, all_bits([1, 0, 0, 0, 1, 0, 0, -0.0, 1])), [-8])

    def test_not_finite_in_each_place(self):
        a = all_bits([4, 1, 1, 1, 4, 1, 1, 1, 4])
        self.assertEqual(cholesky(3, a)[0], 0)
        for wrong in NOT_FINITE:
            self.assertEqual(cholesky(1, [wrong]), [-1])
            self.assertEqual(cholesky(2, [ONE, wrong, wrong, ONE]), [-1])
            for place in range(9):
                self.assertEqual(cholesky(3, placed(a, place, wrong)), [-1])
        self.assertEqual(cholesky(32, [0] * 1023 + [NOT_FINITE[0]]), [-1])

    def test_doubles_come_before_turning_about(self):
        for wrong in NOT_FINITE:
            self.assertEqual(cholesky(2, [ONE, 0, ONE, wrong]), [-1])
            self.assertEqual(cholesky(2, [ONE, wrong, ONE, ONE]), [-1])
            self.assertEqual(cholesky(2, [0, 0, 0, wrong]), [-1])

    def test_turning_about_comes_before_the_steps(self):
        self.assertEqual(made(2, [0, 1, 2, 0]), [-8])
        self.assertEqual(made(2, [-1, 1, 2, 1]), [-8])
        large = 2.0 ** 600
        self.assertEqual(made(2, [1, large, -large, 1]), [-8])

    def test_of_steps_and_diagonals_what_comes_first(self):
        # The first column's quotient is not finite, and the second's diagonal is below 0.
        self.assertEqual(cholesky(2, [SMALLEST, LARGEST, LARGEST, LESS]), [-1])
        # The first diagonal is 0, and the second's steps would not be finite.
        self.assertEqual(of_rows(3, 0, 2.0 ** 600, 1, 0, 0, 1), [-2])
        # The second diagonal is below 0, ahead of a product below it that would not be finite.
        large = 2.0 ** 500
        self.assertEqual(of_rows(3, 1, large, 0, 2.0 ** 600, 0, 1), [-2])
        # A product below the second diagonal is not finite, ahead of the third, which is 0.
        self.assertEqual(of_rows(3, 1, large, large * large * 2, 2.0 ** 600, 0, 0), [-1])


class Callers(unittest.TestCase):
    def test_what_is_handed_in_stays_and_a_second_call_answers_the_same(self):
        for arguments in (
            (3, all_bits([4, 12, -16, 12, 37, -43, -16, -43, 98])), (2, all_bits([1, 2, 3, 4])), (2, [ONE] * 4),
            (2, [SMALLEST, LARGEST, LARGEST, ONE]), (2, [NOT_FINITE[2]] * 4), (33, []),
        ):
            check_pure(self, cholesky, *arguments)

    def test_the_answer_is_a_list_of_whole_numbers(self):
        for answer in (cholesky(1, [ONE]), cholesky(1, [0]), cholesky(0, [])):
            check_kind(self, answer)


if __name__ == "__main__":
    unittest.main()
