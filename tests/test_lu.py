"""Point 2, lu, and what the document says ahead of it."""

import unittest

from bitmatrix.desk import lu
from tests import native
from tests.checks import check_kind, check_pure
from tests.native import LARGEST, NEGATIVE_ZERO, NOT_FINITE, SMALLEST, WRONG_SIZES, all_bits, bits, seeded


def table(source, draw, n):
    return [draw(source) for _ in range(n * n)]


def made(n, numbers):
    return lu(n, all_bits(numbers))


def told(numbers, order):
    return [0] + all_bits(numbers) + order


class Ordinary(unittest.TestCase):
    def test_two_by_two(self):
        self.assertEqual(made(2, [1, 2, 3, 4]), [
            0, 0x4008000000000000, 0x4010000000000000, 0x3FD5555555555555, 0x3FE5555555555556, 1, 0,
        ])

    def test_three_by_three(self):
        # Last come -0.5 by -0.75, and -1.5 less that times -1.25.
        self.assertEqual(made(3, [2, 1, 1, 4, 3, 3, 8, 7, 9]), (
            [0] + all_bits([8, 7, 9, 0.25, -0.75, -1.25, 0.5]) + [0x3FE5555555555555, 0xBFE5555555555556, 2, 0, 1]
        ))

    def test_one_by_one(self):
        self.assertEqual(made(1, [-7]), told([-7], [0]))
        self.assertEqual(lu(1, [SMALLEST]), [0, SMALLEST, 0])
        self.assertEqual(lu(1, [LARGEST]), [0, LARGEST, 0])

    def test_largest_size_with_known_answer(self):
        one = bits(1.0)
        unit = [one if i % 33 == 0 else 0 for i in range(1024)]
        self.assertEqual(lu(32, unit), [0] + unit + list(range(32)))
        # Upside down each row has its one partner, and each exchange puts two rows right.
        turned = [one if i // 32 + i % 32 == 31 else 0 for i in range(1024)]
        self.assertEqual(lu(32, turned), [0] + unit + list(range(31, -1, -1)))

    def test_all_sizes_against_the_machine(self):
        source = seeded(21)
        for n in range(1, 33):
            a = table(source, lambda s: native.near_double(s, 4), n)
            answer = lu(n, a)
            self.assertEqual(answer, native.lu(n, a), n)
            self.assertEqual((answer[0], len(answer)), (0, 1 + n * n + n))

    def compare(self, tables):
        seen = {}
        for n, a in tables:
            answer = lu(n, a)
            self.assertEqual(answer, native.lu(n, a), (n, a))
            seen[answer[0]] = seen.get(answer[0], 0) + 1
        return seen

    def many(self, source, draw, count):
        sizes = [source.randint(1, 5) for _ in range(count)]
        return [(n, table(source, draw, n)) for n in sizes]

    def test_any_doubles_against_the_machine(self):
        seen = self.compare(self.many(seeded(22), native.any_double, 3000))
        self.assertTrue(seen[0] > 100)

    def test_small_whole_numbers_against_the_machine(self):
        seen = self.compare(self.many(seeded(23), native.small_whole, 3000))
        self.assertTrue(seen[0] > 100 and seen[-2] > 100)

    def test_large_numbers_and_zeros_against_the_machine(self):
        seen = self.compare(self.many(seeded(24), native.large_or_small, 3000))
        self.assertTrue(min(seen[0], seen[-1], seen[-2]) > 100)


class Pivots(unittest.TestCase):
    def test_the_first_of_the_greatest_its_sign_aside(self):
        self.assertEqual(made(2, [2, 1, -2, 1]), told([2, 1, -1, 2], [0, 1]))
        self.assertEqual(made(2, [-2, 1, 2, 1]), told([-2, 1, -1, 2], [0, 1]))
        self.assertEqual(made(3, [1, 0, 4, -2, 0, 2, 2, 2, 2])[-3:], [1, 2, 0])
        self.assertEqual(made(3, [1, 0, 4, 2, 0, 2, -2, 2, 2])[-3:], [1, 2, 0])
        self.assertEqual(made(3, [-1, 4, 0, 1, 1, 1, 1, 0, 2])[-3:], [0, 1, 2])

    def test_a_greater_one_with_a_sign_is_taken(self):
        self.assertEqual(made(2, [1, 1, -2, 4]), told([-2, 4, -0.5, 3], [1, 0]))

    def test_greater_by_the_last_bit(self):
        one = bits(1.0)
        self.assertEqual(lu(2, [one, 0, one + 1, one])[-2:], [1, 0])
        self.assertEqual(lu(2, [one + 1, 0, one | NEGATIVE_ZERO, one])[-2:], [0, 1])
        self.assertEqual(lu(2, [SMALLEST, 0, 2 | NEGATIVE_ZERO, one])[-2:], [1, 0])

    def test_rows_above_are_not_looked_at(self):
        self.assertEqual(made(2, [1, 100, 0, 1]), told([1, 100, 0, 1], [0, 1]))

    def test_the_pivot_is_chosen_from_what_the_steps_left(self):
        # In the second column 9 is greatest at first, but nothing of it is left.
        self.assertEqual(made(3, [1, 9, 0, 1, 9, 1, 0, 1, 0]), told([1, 9, 0, 0, 1, 0, 1, 0, 1], [0, 2, 1]))

    def test_order_tells_of_each_row_which_it_was(self):
        self.assertEqual(made(3, [0, 1, 0, 0, 0, 1, 1, 0, 0])[-3:], [2, 0, 1])
        self.assertEqual(made(3, [0, 0, 1, 1, 0, 0, 0, 1, 0])[-3:], [1, 2, 0])

    def test_two_rows_change_places_and_the_others_stay(self):
        a = [0, 1, 0, 0, 0, 0, 1, 0, 0, 0, 0, 1, 1, 0, 0, 0]
        unit = [1, 0, 0, 0, 0, 1, 0, 0, 0, 0, 1, 0, 0, 0, 0, 1]
        self.assertEqual(made(4, a), told(unit, [3, 0, 1, 2]))
        self.assertEqual(made(3, [1, 2, 0, 2, 0, 4, 4, 0, 0])[-3:], [2, 0, 1])

    def test_kept_factors_go_along_with_their_row(self):
        # Column 0 leaves the factors 0.5 and 0.25; then rows 1 and 2 change places.
        answer = made(3, [4, 0, 0, 2, 1, 0, 1, 8, 1])
        self.assertEqual(answer, told([4, 0, 0, 0.25, 8, 1, 0.5, 0.125, -0.125], [0, 2, 1]))


class Steps(unittest.TestCase):
    def test_product_and_difference_are_not_made_one(self):
        x = 1 + 2.0 ** -27
        rounded_square = 1 + 2.0 ** -26
        self.assertEqual(made(2, [2, 2 * x, x, rounded_square]), [-2])
        self.assertEqual(made(2, [2, 2 * x, x, 1]), told([2, 2 * x, x / 2, -2.0 ** -26], [0, 1]))

    def test_the_factor_is_a_quotient_not_a_product(self):
        # 5 by 49 and 5 times (1 by 49) differ in the last bit.
        self.assertNotEqual(5 / 49, 5 * (1 / 49))
        self.assertEqual(made(2, [49, 0, 5, 1]), told([49, 0, 5 / 49, 1], [0, 1]))

    def test_ties_go_to_even(self):
        one = bits(1.0)
        half_unit = bits(-2.0 ** -53)
        self.assertEqual(lu(2, [one, half_unit, one, one])[4], one)
        self.assertEqual(lu(2, [one, half_unit, one, one + 1])[4], one + 2)
        self.assertEqual(lu(2, [one, half_unit + 1, one, one])[4], one + 1)

    def test_below_the_smallest_normal(self):
        two = bits(2.0)
        one = bits(1.0)
        for below, factor in ((1, 0), (2, 1), (3, 2), (5, 2), (7, 4)):
            self.assertEqual(lu(2, [two, 0, below, one]), [0, two, 0, factor, one, 0, 1])
        self.assertEqual(lu(2, [3, 0, 2, one]), [0, 3, 0, 0x3FE5555555555555, one, 0, 1])
        self.assertEqual(lu(2, [two, 3, one, 0])[4], 2 | NEGATIVE_ZERO)
        self.assertEqual(lu(2, [two, SMALLEST, one, 0]), [-2])

    def test_signs_of_zero_in_a_quotient(self):
        one = bits(1.0)
        less = bits(-1.0)
        self.assertEqual(lu(2, [less, one, 0, one]), [0, less, one, NEGATIVE_ZERO, one, 0, 1])
        self.assertEqual(lu(2, [less, one, NEGATIVE_ZERO, one]), [0, less, one, 0, one, 0, 1])
        self.assertEqual(lu(2, [one, one, NEGATIVE_ZERO, one]), [0, one, one, NEGATIVE_ZERO, one, 0, 1])

    def left_over(self, number, factor, above):
        """What is left of number, less factor times above."""
        one = bits(1.0)
        answer = lu(3, [one, 0, above, factor, one, number, 0, 0, one])
        self.assertEqual(answer[:6], [0, one, 0, above, factor, one])
        return answer[6]

    def test_signs_of_zero_in_a_difference(self):
        one = bits(1.0)
        less = bits(-1.0)
        self.assertEqual(self.left_over(0, 0, one), 0)
        self.assertEqual(self.left_over(0, 0, less), 0)
        self.assertEqual(self.left_over(NEGATIVE_ZERO, 0, one), NEGATIVE_ZERO)
        self.assertEqual(self.left_over(0, NEGATIVE_ZERO, one), 0)
        self.assertEqual(self.left_over(NEGATIVE_ZERO, NEGATIVE_ZERO, less), NEGATIVE_ZERO)
        self.assertEqual(self.left_over(one, one, one), 0)
        self.assertEqual(self.left_over(less, one, less), 0)

    def test_a_factor_of_zero_is_not_passed_over(self):
        # -0 less -0 is 0, where passing over would leave -0.
        self.assertEqual(self.left_over(NEGATIVE_ZERO, NEGATIVE_ZERO, bits(1.0)), 0)
        self.assertEqual(self.left_over(NEGATIVE_ZERO, 0, bits(-1.0)), 0)

    def test_just_finite_and_no_longer(self):
        half_unit = bits(2.0 ** 970)
        one = bits(1.0)
        less = bits(-1.0)
        self.assertEqual(lu(2, [one, half_unit - 1, less, LARGEST])[4], LARGEST)
        self.assertEqual(lu(2, [one, half_unit, less, LARGEST]), [-1])
        self.assertEqual(lu(2, [one, half_unit, one, LARGEST | NEGATIVE_ZERO]), [-1])
        self.assertEqual(lu(2, [one, LARGEST, one, 0])[4], LARGEST | NEGATIVE_ZERO)
        self.assertEqual(lu(2, [LARGEST, LARGEST, LARGEST, 0])[4], LARGEST | NEGATIVE_ZERO)


class Refusals(unittest.TestCase):
    def test_wrong_sizes(self):
        for wrong in WRONG_SIZES:
            self.assertEqual(lu(wrong, []), [-8])

    def test_not_finite_in_each_place(self):
        for wrong in NOT_FINITE:
            self.assertEqual(lu(1, [wrong]), [-1])
            for place in range(9):
                a = all_bits([1, 2, 3, 4, 5, 6, 7, 8, 10])
                a[place] = wrong
                self.assertEqual(lu(3, a), [-1])
        self.assertEqual(lu(32, [0] * 1023 + [NOT_FINITE[0]]), [-1])

    def test_a_column_of_zeros(self):
        for zero in (0, NEGATIVE_ZERO):
            self.assertEqual(lu(1, [zero]), [-2])
            self.assertEqual(lu(32, [zero] * 1024), [-2])
        one = bits(1.0)
        self.assertEqual(lu(2, [0, one, NEGATIVE_ZERO, one]), [-2])
        self.assertEqual(lu(2, [NEGATIVE_ZERO, one, 0, one]), [-2])
        self.assertEqual(lu(2, [one, 0, 0, NEGATIVE_ZERO]), [-2])

    def test_a_column_that_the_steps_make_zero(self):
        self.assertEqual(made(2, [1, 2, 2, 4]), [-2])
        self.assertEqual(made(3, [1, 2, 3, 1, 2, 4, 1, 2, 5]), [-2])
        self.assertEqual(made(3, [1, 2, 3, 0, 1, 1, 1, 3, 4]), [-2])

    def test_the_least_that_is_not_zero_is_a_pivot(self):
        self.assertEqual(lu(2, [bits(1.0), 0, 0, SMALLEST | NEGATIVE_ZERO])[0], 0)

    def test_a_double_that_is_not_finite_comes_before_a_column_of_zeros(self):
        for wrong in NOT_FINITE:
            self.assertEqual(lu(2, [0, 0, 0, wrong]), [-1])
            self.assertEqual(lu(2, [0, wrong, 0, 0]), [-1])

    def test_of_steps_and_zeros_what_comes_first(self):
        one = bits(1.0)
        less = LARGEST | NEGATIVE_ZERO
        # The first column's steps are not finite, and the second would have nothing but zeros.
        self.assertEqual(lu(3, [one, one, LARGEST, one, one, less, 0, 0, one]), [-1])
        # The first column has nothing but zeros, and the second's steps would not be finite.
        self.assertEqual(lu(3, [0, one, LARGEST, 0, one, less, 0, 0, one]), [-2])
        # The second column has nothing but zeros ahead of a third that would not be finite.
        self.assertEqual(lu(3, [one, 0, 0, 0, 0, LARGEST, 0, 0, less]), [-2])


class Callers(unittest.TestCase):
    def test_what_is_handed_in_stays_and_a_second_call_answers_the_same(self):
        tables = (
            (2, all_bits([1, 2, 3, 4])),
            (3, all_bits([0, 1, 5, 2, 2, 2, 8, 1, 3])),
            (3, all_bits([1, 2, 3, 2, 4, 6, 1, 2, 9])),
            (2, [bits(1.0), LARGEST, bits(-1.0), LARGEST]),
            (2, [NOT_FINITE[2]] * 4),
            (33, []),
        )
        for n, a in tables:
            check_pure(self, lu, n, a)

    def test_the_answer_is_a_list_of_whole_numbers(self):
        for answer in (lu(1, [bits(1.0)]), lu(1, [0]), lu(0, [])):
            check_kind(self, answer)


if __name__ == "__main__":
    unittest.main()
