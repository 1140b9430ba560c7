"""Point 3, solve, and what the document says ahead of it."""

import itertools
import unittest

from bitmatrix.desk import lu, solve
from tests import native
from tests.checks import check_kind, check_pure, check_same, drawn, placed
from tests.native import LARGEST, NEGATIVE_ZERO, NOT_FINITE, SMALLEST, WRONG_SIZES, all_bits, bits, seeded

ONE = 0x3FF0000000000000
LARGE = 2.0 ** 53


def made(n, a, order, b):
    return solve(n, all_bits(a), order, all_bits(b))


def told(numbers):
    return [0] + all_bits(numbers)


def unit(n):
    return [1 if i % (n + 1) == 0 else 0 for i in range(n * n)]


def handed_on(n, a, b):
    """What lu makes of a, handed on with b; or lu's refusal."""
    answer = lu(n, a)
    return solve(n, answer[1:n * n + 1], answer[n * n + 1:], b) if answer[0] == 0 else answer


def native_handed_on(n, a, b):
    answer = native.lu(n, a)
    return native.solve(n, answer[1:n * n + 1], answer[n * n + 1:], b) if answer[0] == 0 else answer


class Ordinary(unittest.TestCase):
    def test_one_by_one(self):
        self.assertEqual(made(1, [4], [0], [3]), [0, 0x3FE8000000000000])
        self.assertEqual(made(1, [-3], [0], [1]), [0, 0xBFD5555555555555])

    def test_two_by_two(self):
        # 2 1 / 4 3 as lu makes it, and 3, 7: y is 7 and 3 - 3.5, x is (7 - 3) by 4 and -0.5 by -0.5.
        self.assertEqual(made(2, [4, 3, 0.5, -0.5], [1, 0], [3, 7]), told([1, 1]))

    def test_two_by_two_that_is_rounded(self):
        a = [0x4008000000000000, 0x4010000000000000, 0x3FD5555555555555, 0x3FE5555555555556]
        self.assertEqual(solve(2, a, [1, 0], all_bits([5, 11])), told([1, 2]))
        self.assertEqual(solve(2, a, [1, 0], all_bits([1, 0])), [0, 0xBFFFFFFFFFFFFFFF, 0x3FF7FFFFFFFFFFFF])

    def test_what_lu_made_handed_on(self):
        self.assertEqual(handed_on(2, all_bits([2, 1, 4, 3]), all_bits([3, 7])), told([1, 1]))
        self.assertEqual(
            handed_on(3, all_bits([2, 1, 1, 4, 3, 3, 8, 7, 9]), all_bits([1, 2, 3])), told([0.5, 0.5, -0.5])
        )

    def test_largest_size_with_known_answer(self):
        b = list(range(1, 33))
        self.assertEqual(made(32, unit(32), list(range(31, -1, -1)), b), told(b[::-1]))
        below = [1 if i % 32 <= i // 32 else 0 for i in range(1024)]
        self.assertEqual(made(32, below, list(range(32)), b), told([1] * 32))
        above = [1 if i % 32 >= i // 32 else 0 for i in range(1024)]
        self.assertEqual(made(32, above, list(range(32)), b[::-1]), told([1] * 32))

    def test_all_sizes_against_the_machine(self):
        source = seeded(31)
        inputs = []
        for n in range(1, 33):
            a = drawn(source, lambda s: native.near_double(s, 4), n * n)
            inputs.append((n, a, drawn(source, lambda s: native.near_double(s, 4), n)))
        self.assertEqual(check_same(self, handed_on, native_handed_on, inputs), {0: 32})

    def many(self, source, draw, count):
        for _ in range(count):
            n = source.randint(1, 5)
            order = source.sample(range(n), n)
            yield n, drawn(source, draw, n * n), order, drawn(source, draw, n)

    def test_any_doubles_against_the_machine(self):
        seen = check_same(self, solve, native.solve, self.many(seeded(32), native.any_double, 3000))
        self.assertTrue(min(seen.values()) > 50 and sorted(seen) == [-8, -1, 0])

    def test_small_whole_numbers_against_the_machine(self):
        seen = check_same(self, solve, native.solve, self.many(seeded(33), native.small_whole, 3000))
        self.assertTrue(min(seen.values()) > 100 and sorted(seen) == [-8, 0])

    def test_large_numbers_against_the_machine(self):
        seen = check_same(self, solve, native.solve, self.many(seeded(34), native.large_or_small, 3000))
        self.assertTrue(min(seen.values()) > 100 and sorted(seen) == [-8, -1, 0])


class Orders(unittest.TestCase):
    def test_every_order_takes_b_by_its_row(self):
        for n in range(1, 6):
            b = [10 + i for i in range(n)]
            for order in itertools.permutations(range(n)):
                self.assertEqual(made(n, unit(n), list(order), b), told([b[i] for i in order]))

    def test_the_order_is_not_turned_about(self):
        self.assertEqual(made(3, unit(3), [1, 2, 0], [5, 6, 7]), told([6, 7, 5]))


class Steps(unittest.TestCase):
    def test_below_the_diagonal_from_the_first_on(self):
        # 2^53 and 1 is 2^53 again; with 2 put on first it would end at 2^53 + 4.
        self.assertEqual(made(3, [1, 0, 0, 0, 1, 0, -1, -2, 1], [0, 1, 2], [1, 1, LARGE]), told([1, 1, LARGE + 2]))
        self.assertEqual(made(3, [1, 0, 0, 0, 1, 0, -2, -1, 1], [0, 1, 2], [1, 1, LARGE]), told([1, 1, LARGE + 4]))

    def test_behind_the_diagonal_from_the_nearest_on(self):
        self.assertEqual(made(3, [1, -1, -2, 0, 1, 0, 0, 0, 1], [0, 1, 2], [LARGE, 1, 1]), told([LARGE + 2, 1, 1]))
        self.assertEqual(made(3, [1, -2, -1, 0, 1, 0, 0, 0, 1], [0, 1, 2], [LARGE, 1, 1]), told([LARGE + 4, 1, 1]))

    def test_products_are_not_gathered_first(self):
        ones = [1, 0, 0, 0, 1, 0, -1, -1, 1]
        self.assertEqual(made(3, ones, [0, 1, 2], [1, 1, LARGE]), told([1, 1, LARGE]))
        self.assertEqual(made(3, ones[::-1], [0, 1, 2], [LARGE, 1, 1]), told([LARGE, 1, 1]))

    def test_the_diagonal_counts_only_for_x(self):
        # y is 6 and 4 - 3: the diagonal's 2 and 4 have no part in it.
        self.assertEqual(made(2, [2, 0, 0.5, 4], [0, 1], [6, 4]), told([3, 0.25]))

    def test_numbers_below_count_only_for_y_and_those_behind_only_for_x(self):
        self.assertEqual(made(2, [1, 0, 3, 1], [0, 1], [2, 7]), told([2, 1]))
        self.assertEqual(made(2, [1, 3, 0, 1], [0, 1], [7, 2]), told([1, 2]))

    def test_the_last_step_is_a_quotient_not_a_product(self):
        self.assertNotEqual(5 / 49, 5 * (1 / 49))
        self.assertEqual(made(1, [49], [0], [5]), told([5 / 49]))

    def test_product_and_difference_are_not_made_one(self):
        x = 1 + 2.0 ** -27
        square = 1 + 2.0 ** -26
        self.assertEqual(made(2, [1, 0, x, 1], [0, 1], [x, square]), told([x, 0]))
        self.assertEqual(made(2, [1, x, 0, 1], [0, 1], [square, x]), told([0, x]))

    def test_ties_go_to_even(self):
        half_unit = bits(-2.0 ** -53)
        self.assertEqual(solve(2, [ONE, 0, half_unit, ONE], [0, 1], [ONE, ONE])[2], ONE)
        self.assertEqual(solve(2, [ONE, 0, half_unit, ONE], [0, 1], [ONE, ONE + 1])[2], ONE + 2)
        self.assertEqual(solve(2, [ONE, 0, half_unit + 1, ONE], [0, 1], [ONE, ONE])[2], ONE + 1)

    def test_below_the_smallest_normal(self):
        for given, half in ((1, 0), (2, 1), (3, 2), (5, 2), (7, 4)):
            self.assertEqual(solve(1, all_bits([2]), [0], [given]), [0, half])
        self.assertEqual(solve(1, [3], [0], [2]), [0, 0x3FE5555555555555])

    def test_signs_of_zero(self):
        less = bits(-1.0)
        self.assertEqual(solve(1, [ONE], [0], [NEGATIVE_ZERO]), [0, NEGATIVE_ZERO])
        self.assertEqual(solve(1, [less], [0], [NEGATIVE_ZERO]), [0, 0])
        self.assertEqual(solve(1, [less], [0], [0]), [0, NEGATIVE_ZERO])
        # -0 less 0 stays -0, -0 less -0 is 0: a number of 0 in the table is not passed over.
        self.assertEqual(solve(2, [ONE, 0, 0, ONE], [0, 1], [ONE, NEGATIVE_ZERO])[2], NEGATIVE_ZERO)
        self.assertEqual(solve(2, [ONE, 0, NEGATIVE_ZERO, ONE], [0, 1], [ONE, NEGATIVE_ZERO])[2], 0)
        self.assertEqual(solve(2, [ONE, 0, 0, ONE], [0, 1], [NEGATIVE_ZERO, ONE])[1], NEGATIVE_ZERO)
        self.assertEqual(solve(2, [ONE, NEGATIVE_ZERO, 0, ONE], [0, 1], [NEGATIVE_ZERO, ONE])[1], 0)

    def test_results_that_are_not_finite(self):
        less = LARGEST | NEGATIVE_ZERO
        self.assertEqual(solve(1, [SMALLEST], [0], [ONE]), [-1])
        self.assertEqual(solve(1, [ONE - 1], [0], [LARGEST]), [-1])
        self.assertEqual(solve(1, [ONE], [0], [LARGEST]), [0, LARGEST])
        self.assertEqual(solve(2, [ONE, 0, bits(2.0), ONE], [0, 1], [LARGEST, 0]), [-1])
        self.assertEqual(solve(2, [ONE, 0, ONE, ONE], [0, 1], [LARGEST, less]), [-1])
        self.assertEqual(solve(2, [ONE, bits(2.0), 0, ONE], [0, 1], [0, LARGEST]), [-1])
        self.assertEqual(solve(2, [ONE, ONE, 0, ONE], [0, 1], [less, LARGEST]), [-1])

    def test_a_step_on_the_way_that_is_not_finite(self):
        # x of the second row would be finite again by a large diagonal.
        large = bits(2.0 ** 600)
        self.assertEqual(solve(2, [ONE, 0, large, large], [0, 1], [large, 0]), [-1])
        self.assertEqual(solve(3, [ONE, 0, 0, 0, ONE, 0, ONE, bits(-1.0), ONE], [0, 1, 2], [LARGEST] * 3)[0], 0)
        self.assertEqual(solve(3, [ONE, 0, 0, 0, ONE, 0, bits(-1.0), ONE, ONE], [0, 1, 2], [LARGEST] * 3), [-1])


class Refusals(unittest.TestCase):
    def test_wrong_sizes(self):
        for wrong in WRONG_SIZES:
            self.assertEqual(solve(wrong, [], [], []), [-8])

    def test_wrong_orders(self):
        a = all_bits(unit(3))
        b = all_bits([1, 2, 3])
        for order in itertools.product((-2147483648, -3, -1, 0, 1, 2, 3, 2147483647), repeat=3):
            right = sorted(order) == [0, 1, 2]
            self.assertEqual(solve(3, a, list(order), b)[0], 0 if right else -8, order)
        for wrong in (1, -1, 2147483647, -2147483648):
            self.assertEqual(solve(1, [ONE], [wrong], [ONE]), [-8])
        twice = list(range(31)) + [30]
        self.assertEqual(solve(32, all_bits(unit(32)), twice, [ONE] * 32), [-8])
        self.assertEqual(solve(32, all_bits(unit(32)), list(range(1, 33)), [ONE] * 32), [-8])

    def test_zero_on_the_diagonal(self):
        for zero in (0, NEGATIVE_ZERO):
            self.assertEqual(solve(1, [zero], [0], [ONE]), [-8])
            self.assertEqual(solve(1, [zero], [0], [0]), [-8])
            for n in (2, 3, 32):
                for i in range(n):
                    a = placed([ONE] * (n * n), i * n + i, zero)
                    self.assertEqual(solve(n, a, list(range(n)), [ONE] * n), [-8])

    def test_zero_beside_the_diagonal(self):
        self.assertEqual(made(2, [1, 0, 0, 1], [0, 1], [1, 2]), told([1, 2]))
        self.assertEqual(solve(1, [SMALLEST | NEGATIVE_ZERO], [0], [SMALLEST]), told([-1]))

    def test_not_finite_in_each_place_of_each_list(self):
        a = all_bits(unit(3))
        b = all_bits([1, 2, 3])
        for wrong in NOT_FINITE:
            for place in range(9):
                self.assertEqual(solve(3, placed(a, place, wrong), [0, 1, 2], b), [-1])
            for place in range(3):
                self.assertEqual(solve(3, a, [0, 1, 2], placed(b, place, wrong)), [-1])
        last = placed(all_bits(unit(32)), 1023, NOT_FINITE[0])
        self.assertEqual(solve(32, last, list(range(32)), [ONE] * 32), [-1])

    def test_doubles_come_before_order_and_diagonal(self):
        for wrong in NOT_FINITE:
            self.assertEqual(solve(2, [ONE, 0, 0, wrong], [0, 0], [ONE, ONE]), [-1])
            self.assertEqual(solve(2, [ONE, 0, 0, ONE], [0, 2], [ONE, wrong]), [-1])
            self.assertEqual(solve(2, [0, wrong, 0, ONE], [0, 1], [ONE, ONE]), [-1])
            self.assertEqual(solve(2, [ONE, 0, 0, 0], [0, 1], [ONE, wrong]), [-1])
            self.assertEqual(solve(2, [0, 0, 0, 0], [-1, 2], [wrong, wrong]), [-1])

    def test_order_and_diagonal_come_before_the_steps(self):
        two = bits(2.0)
        self.assertEqual(solve(2, [ONE, 0, two, ONE], [0, 0], [LARGEST, LARGEST]), [-8])
        self.assertEqual(solve(2, [0, 0, two, ONE], [0, 1], [LARGEST, LARGEST]), [-8])
        self.assertEqual(solve(2, [ONE, 0, two, NEGATIVE_ZERO], [0, 1], [LARGEST, LARGEST]), [-8])


class Callers(unittest.TestCase):
    def test_what_is_handed_in_stays_and_a_second_call_answers_the_same(self):
        a = all_bits([4, 3, 0.5, -0.5])
        b = all_bits([3, 7])
        for arguments in (
            (2, a, [1, 0], b), (2, a, [1, 1], b), (2, [0] * 4, [1, 0], b), (2, a, [0, 1], [NOT_FINITE[0]] * 2),
            (1, [SMALLEST], [0], [ONE]), (33, [], [], []), (32, all_bits(unit(32)), list(range(32)), [ONE] * 32),
        ):
            check_pure(self, solve, *arguments)

    def test_the_answer_is_a_list_of_whole_numbers(self):
        for answer in (solve(1, [ONE], [0], [ONE]), solve(1, [ONE], [1], [ONE]), solve(0, [], [], [])):
            check_kind(self, answer)


if __name__ == "__main__":
    unittest.main()
