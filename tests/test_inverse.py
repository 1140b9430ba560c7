"""Point 4, inverse, and what the document says ahead of it."""

import itertools
import unittest

from bitmatrix.desk import inverse
from tests import native
from tests.checks import check_kind, check_pure, check_same, drawn, placed
from tests.native import LARGEST, NEGATIVE_ZERO, NOT_FINITE, SMALLEST, WRONG_SIZES, all_bits, bits, seeded

ONE = 0x3FF0000000000000


def made(n, numbers):
    return inverse(n, all_bits(numbers))


def told(numbers):
    return [0] + all_bits(numbers)


class Ordinary(unittest.TestCase):
    def test_one_by_one(self):
        self.assertEqual(made(1, [4]), [0, 0x3FD0000000000000])
        self.assertEqual(made(1, [-3]), [0, 0xBFD5555555555555])
        self.assertEqual(inverse(1, [LARGEST]), [0, 0x0004000000000000])

    def test_two_by_two(self):
        self.assertEqual(made(2, [2, 1, 4, 3]), told([1.5, -0.5, -2, 1]))
        self.assertEqual(made(2, [1, 2, 3, 4]), [
            0, 0xBFFFFFFFFFFFFFFF, 0x3FF0000000000000, 0x3FF7FFFFFFFFFFFF, 0xBFDFFFFFFFFFFFFF,
        ])

    def test_it_stands_row_by_row(self):
        self.assertEqual(made(2, [1, 2, 0, 1]), told([1, -2, 0, 1]))
        self.assertEqual(made(2, [1, 0, 2, 4]), told([1, 0, -0.5, 0.25]))
        self.assertEqual(made(3, [1, 2, 3, 0, 1, 4, 0, 0, 1]), told([1, -2, 5, 0, 1, -4, 0, 0, 1]))

    def test_largest_size_with_known_answer(self):
        unit = all_bits([1 if i % 33 == 0 else 0 for i in range(1024)])
        self.assertEqual(inverse(32, unit), [0] + unit)
        above = [1 if i % 32 >= i // 32 else 0 for i in range(1024)]
        beside = [{0: 1, 1: -1}.get(i % 32 - i // 32, 0) for i in range(1024)]
        self.assertEqual(made(32, above), told(beside))

    def test_all_sizes_against_the_machine(self):
        source = seeded(61)
        inputs = [(n, drawn(source, lambda s: native.near_double(s, 4), n * n)) for n in (1, 2, 3, 5, 8, 13, 21, 31, 32)]
        self.assertEqual(check_same(self, inverse, native.inverse, inputs), {0: 9})

    def many(self, source, draw, count):
        for _ in range(count):
            n = source.randint(1, 5)
            yield n, drawn(source, draw, n * n)

    def test_any_doubles_against_the_machine(self):
        seen = check_same(self, inverse, native.inverse, self.many(seeded(62), native.any_double, 2000))
        self.assertTrue(min(seen[0], seen[-1]) > 100)

    def test_small_whole_numbers_against_the_machine(self):
        seen = check_same(self, inverse, native.inverse, self.many(seeded(63), native.small_whole, 2000))
        self.assertTrue(min(seen[0], seen[-2]) > 100)

    def test_large_numbers_against_the_machine(self):
        seen = check_same(self, inverse, native.inverse, self.many(seeded(64), native.large_or_small, 2000))
        self.assertTrue(min(seen[0], seen[-1], seen[-2]) > 100)


class Exchanges(unittest.TestCase):
    def test_every_exchange_of_rows(self):
        for n in range(1, 6):
            for order in itertools.permutations(range(n)):
                a = [1 if order[i // n] == i % n else 0 for i in range(n * n)]
                turned = [1 if order[i % n] == i // n else 0 for i in range(n * n)]
                self.assertEqual(made(n, a), told(turned), order)

    def test_rows_that_change_places_with_other_numbers(self):
        self.assertEqual(made(2, [0, 2, 4, 0]), told([0, 0.25, 0.5, 0]))
        self.assertEqual(made(3, [0, 2, 0, 0, 0, 4, 8, 0, 0]), told([0, 0, 0.125, 0.5, 0, 0, 0, 0.25, 0]))


class Steps(unittest.TestCase):
    def test_the_pivot_is_the_greatest(self):
        # With the first row as the pivot row the second row's numbers would be lost.
        tiny = 2.0 ** -60
        self.assertEqual(made(2, [tiny, 1, 1, 1]), told([-1, 1, 1, -tiny]))

    def test_quotients_are_made_not_products(self):
        self.assertEqual(made(2, [49, 0, 5, 1]), told([1 / 49, 0, -(5 / 49), 1]))
        self.assertEqual(made(2, [1, 5, 0, 49]), told([1, -5 * (1 / 49), 0, 1 / 49]))

    def test_signs_of_zero(self):
        # The number above is (0 less 0 times 1) by -2.
        self.assertEqual(made(2, [-2, 0, 0, 1]), told([-0.5, -0.0, 0, 1]))
        # Below, y is 0 less 0 times 1, by -2.
        self.assertEqual(made(2, [1, 0, 0, -2]), told([1, 0, -0.0, -0.5]))

    def test_results_that_are_not_finite(self):
        self.assertEqual(inverse(1, [SMALLEST]), [-1])
        self.assertEqual(inverse(1, [SMALLEST | NEGATIVE_ZERO]), [-1])
        # 2^-1024 is the greatest whose quotient is not finite.
        self.assertEqual(inverse(1, [0x0004000000000000]), [-1])
        self.assertEqual(inverse(1, [0x0004000000000001]), [0, 0x7FEFFFFFFFFFFFF8])
        # lu's steps are finite here, those of solve are not.
        self.assertEqual(inverse(2, [ONE, LARGEST, 0, bits(0.25)]), [-1])
        # Here lu's are not.
        self.assertEqual(inverse(2, [ONE, LARGEST, bits(-1.0), LARGEST]), [-1])


class Refusals(unittest.TestCase):
    def test_wrong_sizes(self):
        for wrong in WRONG_SIZES:
            self.assertEqual(inverse(wrong, []), [-8])

    def test_not_finite_in_each_place(self):
        a = all_bits([1, 2, 3, 4, 5, 6, 7, 8, 10])
        self.assertEqual(inverse(3, a)[0], 0)
        for wrong in NOT_FINITE:
            self.assertEqual(inverse(1, [wrong]), [-1])
            for place in range(9):
                self.assertEqual(inverse(3, placed(a, place, wrong)), [-1])
        self.assertEqual(inverse(32, [0] * 1023 + [NOT_FINITE[0]]), [-1])

    def test_a_column_of_zeros(self):
        for zero in (0, NEGATIVE_ZERO):
            self.assertEqual(inverse(1, [zero]), [-2])
            self.assertEqual(inverse(32, [zero] * 1024), [-2])
            self.assertEqual(inverse(2, [zero, ONE, zero, ONE]), [-2])
            self.assertEqual(inverse(2, [ONE, 0, 0, zero]), [-2])

    def test_a_column_that_the_steps_make_zero(self):
        self.assertEqual(made(2, [1, 2, 2, 4]), [-2])
        self.assertEqual(made(3, [1, 2, 3, 1, 2, 4, 1, 2, 5]), [-2])
        self.assertEqual(made(3, [1, 2, 3, 0, 1, 1, 1, 3, 4]), [-2])

    def test_a_double_that_is_not_finite_comes_before_a_column_of_zeros(self):
        for wrong in NOT_FINITE:
            self.assertEqual(inverse(2, [0, 0, 0, wrong]), [-1])

    def test_of_steps_and_zeros_what_comes_first(self):
        less = LARGEST | NEGATIVE_ZERO
        self.assertEqual(inverse(3, [ONE, ONE, LARGEST, ONE, ONE, less, 0, 0, ONE]), [-1])
        self.assertEqual(inverse(3, [0, ONE, LARGEST, 0, ONE, less, 0, 0, ONE]), [-2])
        # By the first diagonal solve's quotient would not be finite, but lu comes to the second first.
        self.assertEqual(inverse(2, [SMALLEST, 0, 0, 0]), [-2])


class Callers(unittest.TestCase):
    def test_what_is_handed_in_stays_and_a_second_call_answers_the_same(self):
        for arguments in (
            (2, all_bits([1, 2, 3, 4])), (3, all_bits([0, 1, 5, 2, 2, 2, 8, 1, 3])), (2, [0] * 4), (1, [SMALLEST]),
            (2, [NOT_FINITE[2]] * 4), (33, []),
        ):
            check_pure(self, inverse, *arguments)

    def test_the_answer_is_a_list_of_whole_numbers(self):
        for answer in (inverse(1, [ONE]), inverse(1, [0]), inverse(0, [])):
            check_kind(self, answer)


if __name__ == "__main__":
    unittest.main()
