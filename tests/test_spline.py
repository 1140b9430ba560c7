"""Point 9, spline, and what the document says ahead of it."""

import unittest

from bitmatrix.desk import spline
from tests import native
from tests.checks import check_kind, check_pure, check_same, drawn, placed
from tests.native import LARGEST, NEGATIVE_ZERO, NOT_FINITE, SMALLEST, WRONG_SIZES, all_bits, bits, seeded

ONE = 0x3FF0000000000000
LARGE = native.number(LARGEST)


def made(x, y):
    return spline(len(x), all_bits(x), all_bits(y))


def told(numbers):
    return [0] + all_bits(numbers)


def rising(source, draw, n):
    """n doubles, each greater than the one before."""
    numbers = set()
    while len(numbers) < n:
        numbers.add(native.number(draw(source)))
    return all_bits(sorted(numbers))


def near(source):
    return native.near_double(source, 4)


class Ordinary(unittest.TestCase):
    def test_three_points(self):
        # m is 4, and 6 times (-1 - 1) by it -3.
        self.assertEqual(made([0, 1, 2], [0, 1, 0]), [0, 0, 0xC008000000000000, 0])

    def test_four_points(self):
        # d is -3 and (12 + 3) by 3.75; then from the end 4, and -3 less 0.25 times 4.
        self.assertEqual(made([0, 1, 2, 3], [0, 1, 0, 1]), told([0, -4, 4, 0]))

    def test_stretches_that_differ(self):
        self.assertEqual(made([0, 1, 3, 4], [0, 1, 0, 2]), told([0, -2.625, 3.375, 0]))
        self.assertEqual(made([-1, 0, 3], [0, 1, 7]), told([0, 0.75, 0]))

    def test_answers_that_are_rounded(self):
        self.assertEqual(made([0, 1, 2, 3], [0, 1, 4, 9]), [0, 0, 0x4003333333333333, 0x4003333333333333, 0])
        self.assertEqual(made([0, 1, 2.5], [0, 0, 1]), [0, 0, 0x3FE999999999999A, 0])

    def test_a_straight_line(self):
        self.assertEqual(made([1, 2, 4, 8], [3, 5, 9, 17]), told([0] * 4))

    def test_two_points(self):
        self.assertEqual(made([0, 1], [5, 7]), [0, 0, 0])
        self.assertEqual(made([-3, -2], [-0.0, -1]), [0, 0, 0])

    def test_two_points_make_no_step(self):
        # Neither the stretch nor the rise would be finite.
        self.assertEqual(made([-LARGE, LARGE], [-LARGE, LARGE]), [0, 0, 0])
        self.assertEqual(spline(2, [0, SMALLEST], [0, LARGEST]), [0, 0, 0])
        self.assertEqual(made([-LARGE, 0, LARGE], [0, 0, 0]), [-1])

    def test_largest_size_with_known_answer(self):
        self.assertEqual(made(list(range(32)), [7] * 32), told([0] * 32))
        answer = made(list(range(32)), [i % 2 for i in range(32)])
        self.assertEqual((answer[1], answer[32], len(answer)), (0, 0, 33))
        # Far from the ends it goes to and fro between 6 at the points below and -6 at those above.
        self.assertAlmostEqual(native.number(answer[16]), -6, 6)
        self.assertAlmostEqual(native.number(answer[17]), 6, 6)

    def test_all_sizes_against_the_machine(self):
        source = seeded(111)
        inputs = [(n, rising(source, near, n), drawn(source, near, n)) for n in list(range(2, 33)) * 3]
        self.assertEqual(check_same(self, spline, native.spline, inputs), {0: 93})

    def compare(self, seed, draw, count):
        source = seeded(seed)
        inputs = []
        for _ in range(count):
            n = source.randint(2, 6)
            inputs.append((n, rising(source, draw, n), drawn(source, draw, n)))
        return check_same(self, spline, native.spline, inputs)

    def test_any_doubles_against_the_machine(self):
        seen = self.compare(112, native.any_double, 3000)
        self.assertTrue(min(seen[0], seen[-1]) > 100)

    def test_small_whole_numbers_against_the_machine(self):
        self.assertEqual(self.compare(113, native.small_whole, 2000), {0: 2000})

    def test_numbers_about_the_smallest_against_the_machine(self):
        seen = self.compare(114, lambda s: native.double_between(s, 0, 30), 1000)
        self.assertTrue(seen[0] > 100)

    def test_numbers_about_the_largest_against_the_machine(self):
        seen = self.compare(115, lambda s: native.double_between(s, 2036, 2046), 1000)
        self.assertTrue(min(seen[0], seen[-1]) > 50)

    def test_x_in_any_order_against_the_machine(self):
        source = seeded(116)
        inputs = [(n, drawn(source, native.small_whole, n), drawn(source, near, n)) for n in [2, 3] * 500]
        seen = check_same(self, spline, native.spline, inputs)
        self.assertTrue(min(seen[0], seen[-8]) > 100)


class Steps(unittest.TestCase):
    def test_both_ends_are_zero(self):
        for n in (2, 3, 5, 32):
            answer = made(list(range(n)), [-i * i * i for i in range(n)])
            self.assertEqual((answer[1], answer[n]), (0, 0))

    def test_the_difference_of_slopes_is_made_before_it_is_taken_six_times(self):
        # 6 times 1.1 less 6 times 0.7 would be another double.
        x, y = 0.7, 1.1
        self.assertNotEqual(6 * (y - x), 6 * y - 6 * x)
        self.assertEqual(made([-1, 0, 1], [-x, 0, y])[2], bits(6 * (y - x) / 4))

    def test_slopes_are_quotients(self):
        self.assertNotEqual(5 / 49, 5 * (1 / 49))
        self.assertEqual(made([-1, 0, 49], [0, 0, 5])[2], bits(6 * (5 / 49) / 100))

    def test_no_two_steps_are_made_one(self):
        source = seeded(117)
        for _ in range(300):
            x, y = rising(source, near, 4), drawn(source, near, 4)
            self.assertEqual(spline(4, x, y), native.spline(4, x, y))

    def test_signs_of_zero(self):
        # The bend is so small that it is lost by m, with its sign.
        tiny = SMALLEST | NEGATIVE_ZERO
        self.assertEqual(spline(3, all_bits([-100, 0, 100]), [0, 0, 0]), [0, 0, 0, 0])
        self.assertEqual(spline(3, all_bits([-1, 0, 100]), [SMALLEST, 0, 0]), [0, 0, 0, 0])
        self.assertEqual(spline(3, all_bits([-1, 0, 100]), [tiny, 0, 0]), [0, 0, NEGATIVE_ZERO, 0])

    def test_results_that_are_not_finite(self):
        half = LARGE / 2
        # A stretch; the sum of two; that doubled.
        self.assertEqual(made([-LARGE, half, LARGE], [0, 0, 0]), [-1])
        self.assertEqual(made([-LARGE, 0, LARGE], [0, 0, 0]), [-1])
        self.assertEqual(made([-half, 0, half], [0, 0, 0]), [-1])
        self.assertEqual(made([-half / 2, 0, half / 2], [0, 0, 0]), [0, 0, 0, 0])
        # A rise; a slope; the slopes' difference; that six times; the quotient by m.
        self.assertEqual(made([0, 4, 8], [-LARGE, LARGE, LARGE]), [-1])
        self.assertEqual(made([0, 0.5, 8], [0, LARGE, LARGE]), [-1])
        self.assertEqual(made([0, 1, 2], [LARGE, 0, LARGE]), [-1])
        self.assertEqual(made([0, 1, 2], [0, 0, half]), [-1])
        self.assertEqual(made([0, 0.0625, 0.125], [0, 0, 2.0 ** 1013]), told([0, 6 * 2.0 ** 1019, 0]))
        self.assertEqual(made([0, 0.0625, 0.125], [0, 0, 2.0 ** 1016]), [-1])


class Refusals(unittest.TestCase):
    def test_wrong_sizes(self):
        for wrong in WRONG_SIZES:
            self.assertEqual(spline(wrong, [], []), [-8])

    def test_one_point(self):
        self.assertEqual(spline(1, [ONE], [ONE]), [-8])
        self.assertEqual(spline(1, [NOT_FINITE[0]], [NOT_FINITE[2]]), [-8])

    def test_x_that_is_not_rising(self):
        self.assertEqual(made([1, 0], [0, 0]), [-8])
        self.assertEqual(made([1, 1], [0, 0]), [-8])
        self.assertEqual(made([-1, -2], [0, 0]), [-8])
        self.assertEqual(made([-1, -1], [0, 0]), [-8])
        self.assertEqual(made([1, -1], [0, 0]), [-8])
        self.assertEqual(made([0, 2, 1], [0, 0, 0]), [-8])
        self.assertEqual(made([0, 0, 1], [0, 0, 0]), [-8])
        self.assertEqual(made([0, 1, 1], [0, 0, 0]), [-8])
        x = all_bits(range(32))
        for place in range(31):
            self.assertEqual(spline(32, placed(x, place, x[place + 1]), x), [-8])

    def test_zeros_are_alike_whatever_their_sign(self):
        for x in ([0, 0], [0, NEGATIVE_ZERO], [NEGATIVE_ZERO, 0], [NEGATIVE_ZERO, NEGATIVE_ZERO]):
            self.assertEqual(spline(2, x, [0, 0]), [-8])
            self.assertEqual(spline(3, [bits(-1.0)] + x, [0, 0, 0]), [-8])

    def test_x_that_rises_by_the_least(self):
        tiny = SMALLEST | NEGATIVE_ZERO
        for zero in (0, NEGATIVE_ZERO):
            self.assertEqual(spline(2, [zero, SMALLEST], [0, 0]), [0, 0, 0])
            self.assertEqual(spline(2, [tiny, zero], [0, 0]), [0, 0, 0])
            self.assertEqual(spline(2, [zero, tiny], [0, 0]), [-8])
        self.assertEqual(spline(2, [ONE, ONE + 1], [0, 0]), [0, 0, 0])
        self.assertEqual(spline(2, [bits(-1.0) + 1, bits(-1.0)], [0, 0]), [0, 0, 0])
        self.assertEqual(spline(2, [bits(-1.0), bits(-1.0) + 1], [0, 0]), [-8])

    def test_not_finite_in_each_place_of_each_list(self):
        x = all_bits([0, 1, 2])
        for wrong in NOT_FINITE:
            for place in range(3):
                self.assertEqual(spline(3, placed(x, place, wrong), x), [-1])
                self.assertEqual(spline(3, x, placed(x, place, wrong)), [-1])
            for place in range(2):
                self.assertEqual(spline(2, placed(x[:2], place, wrong), x[:2]), [-1])
                self.assertEqual(spline(2, x[:2], placed(x[:2], place, wrong)), [-1])
        self.assertEqual(spline(32, all_bits(range(32)), [0] * 31 + [NOT_FINITE[0]]), [-1])

    def test_doubles_come_before_rising(self):
        for wrong in NOT_FINITE:
            self.assertEqual(spline(3, [ONE, ONE, wrong], [0, 0, 0]), [-1])
            self.assertEqual(spline(3, [ONE, ONE, ONE], [0, 0, wrong]), [-1])

    def test_rising_comes_before_the_steps(self):
        self.assertEqual(made([-LARGE, LARGE, 0], [0, 0, 0]), [-8])
        self.assertEqual(made([0, 1, 1], [-LARGE, LARGE, 0]), [-8])


class Callers(unittest.TestCase):
    def test_what_is_handed_in_stays_and_a_second_call_answers_the_same(self):
        x = all_bits([0, 1, 3, 4])
        for arguments in (
            (4, x, all_bits([0, 1, 0, 2])), (4, x, x), (2, x[:2], x[:2]), (3, [ONE] * 3, [0] * 3),
            (3, x[:3], [0, LARGEST, NOT_FINITE[0]]), (3, x[:3], [0, LARGEST, 0]), (1, [ONE], [ONE]), (33, [], []),
        ):
            check_pure(self, spline, *arguments)

    def test_the_answer_is_a_list_of_whole_numbers(self):
        for answer in (spline(2, [0, ONE], [0, 0]), spline(2, [0, 0], [0, 0]), spline(0, [], [])):
            check_kind(self, answer)


if __name__ == "__main__":
    unittest.main()
