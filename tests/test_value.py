"""Point 10, value, and what the document says ahead of it."""

import unittest

from bitmatrix.desk import spline, value
from tests import native
from tests.checks import check_kind, check_pure, check_same, drawn, placed
from tests.native import LARGEST, NEGATIVE_ZERO, NOT_FINITE, SMALLEST, WRONG_SIZES, all_bits, bits, seeded
from tests.test_spline import near, rising

ONE = 0x3FF0000000000000
LARGE = native.number(LARGEST)


def made(t, x, y, second):
    return value(len(x), bits(float(t)), all_bits(x), all_bits(y), all_bits(second))


def told(number):
    return [0, bits(float(number))]


def beside(source, x):
    """A place to ask for: at a point, between two or more, or by the last bit beside a point."""
    at = source.choice(x)
    kind = source.randrange(3)
    if kind == 0:
        return at
    if kind == 1:
        return bits(source.uniform(native.number(x[0]), native.number(x[-1])))
    size = (at & ~NEGATIVE_ZERO) + source.choice((-1, 1))
    return (at & NEGATIVE_ZERO) | min(max(size, 0), LARGEST)


class Ordinary(unittest.TestCase):
    def test_two_points(self):
        self.assertEqual(made(1, [0, 2], [1, 3], [0, 0]), told(2))
        # a and b are 0.5, (0.125 - 0.5) times 6 twice is -4.5; times 4 by 6 it is -3.
        self.assertEqual(made(1, [0, 2], [1, 3], [6, 6]), told(-1))

    def test_three_points(self):
        x, y, second = [0, 1, 2], [0, 1, 0], [0, -3, 0]
        for t, expected in ((0, 0), (0.5, 0.6875), (1, 1), (1.5, 0.6875), (2, 0), (-1, -1), (3, -1)):
            self.assertEqual(made(t, x, y, second), told(expected), t)

    def test_a_value_that_is_rounded(self):
        # About 4 by 3 less 13 by 9: a and b are two thirds and a third, and each step is rounded.
        self.assertEqual(made(1, [0, 3], [1, 2], [1, 2]), [0, 0xBFBC71C71C71C720])

    def test_what_spline_made_handed_on(self):
        x, y = all_bits([0, 1, 2, 3]), all_bits([0, 1, 0, 1])
        second = spline(4, x, y)[1:]
        self.assertEqual(second, all_bits([0, -4, 4, 0]))
        for t, expected in ((0, 0), (1, 1), (2, 0), (3, 1), (0.5, 0.75), (1.5, 0.5), (2.5, 0.25), (4, 6 - 4)):
            self.assertEqual(value(4, bits(float(t)), x, y, second), told(expected), t)

    def test_largest_size_with_known_answer(self):
        x, y = list(range(32)), [2 * i for i in range(32)]
        for t in (0, 0.5, 1, 15.25, 30, 30.5, 31, 40, -7):
            self.assertEqual(made(t, x, y, [0] * 32), told(2 * t))

    def handed_on(self, n, source, draw):
        x, y = rising(source, draw, n), drawn(source, draw, n)
        second = spline(n, x, y)[1:] or drawn(source, draw, n)
        return n, beside(source, x), x, y, second

    def test_all_sizes_against_the_machine(self):
        source = seeded(121)
        inputs = [self.handed_on(n, source, near) for n in list(range(2, 33)) * 10]
        self.assertEqual(check_same(self, value, native.value, inputs), {0: 310})

    def compare(self, seed, draw, count):
        source = seeded(seed)
        inputs = []
        for _ in range(count):
            n = source.randint(2, 5)
            x = rising(source, draw, n)
            t = beside(source, x) if source.randrange(2) else draw(source)
            inputs.append((n, t, x, drawn(source, draw, n), drawn(source, draw, n)))
        return check_same(self, value, native.value, inputs)

    def test_any_doubles_against_the_machine(self):
        seen = self.compare(122, native.any_double, 3000)
        self.assertTrue(min(seen[0], seen[-1]) > 100)

    def test_like_doubles_against_the_machine(self):
        self.assertEqual(self.compare(123, near, 2000), {0: 2000})

    def test_small_whole_numbers_against_the_machine(self):
        self.assertEqual(self.compare(124, native.small_whole, 2000), {0: 2000})

    def test_stretches_about_the_smallest_square_against_the_machine(self):
        seen = self.compare(125, lambda s: native.double_between(s, 480, 500), 1000)
        self.assertTrue(seen[0] > 100)

    def test_stretches_about_the_largest_square_against_the_machine(self):
        seen = self.compare(126, lambda s: native.double_between(s, 1525, 1534), 1000)
        self.assertTrue(min(seen[0], seen[-1]) > 100)

    def test_x_in_any_order_against_the_machine(self):
        source = seeded(127)
        inputs = []
        for n in [2, 3] * 500:
            x, y = drawn(source, native.small_whole, n), drawn(source, near, n)
            inputs.append((n, native.small_whole(source), x, y, y))
        seen = check_same(self, value, native.value, inputs)
        self.assertTrue(min(seen[0], seen[-8]) > 100)


class Stretches(unittest.TestCase):
    X = [0, 1, 2, 3]

    def stretch_of(self, t):
        """The points whose second derivatives count at t."""
        found = []
        for i in range(4):
            if made(t, self.X, [0] * 4, placed([0] * 4, i, 1)) != made(t, self.X, [0] * 4, [0] * 4):
                found.append(i)
        return found

    def test_between_the_points(self):
        for start in range(3):
            self.assertEqual(self.stretch_of(start + 0.25), [start, start + 1])

    def test_outside(self):
        self.assertEqual(self.stretch_of(-0.5), [0, 1])
        self.assertEqual(self.stretch_of(-100), [0, 1])
        self.assertEqual(self.stretch_of(3.5), [2, 3])
        self.assertEqual(self.stretch_of(100), [2, 3])

    def test_at_an_inner_point_the_stretch_begins(self):
        # In the stretch from it on, all is -0; in the one before, 0 times 1 would make it 0.
        for start in (1, 2):
            y = [1] * start + [-0.0] + [-1] * (3 - start)
            self.assertEqual(made(start, self.X, y, [-1] * 4), told(-0.0))

    def test_at_an_inner_point_the_stretch_before_does_not_count(self):
        # The first stretch's square is not finite.
        x = [-2.0 ** 600, 0, 1]
        self.assertEqual(made(0, x, [1, 2, 3], [0, 0, 0]), told(2))
        self.assertEqual(made(0.5, x, [1, 2, 3], [0, 0, 0]), told(2.5))
        self.assertEqual(value(3, SMALLEST | NEGATIVE_ZERO, all_bits(x), all_bits([1, 2, 3]), [0] * 3), [-1])
        # Nor is the last one's here.
        x = [-1, 0, 2.0 ** 600]
        self.assertEqual(made(-0.5, x, [1, 2, 3], [0, 0, 0]), told(1.5))
        self.assertEqual(made(0, x, [1, 2, 3], [0, 0, 0]), [-1])
        self.assertEqual(made(2.0 ** 600, x, [1, 2, 3], [0, 0, 0]), [-1])

    def test_zeros_are_alike_whatever_their_sign(self):
        for point in (0.0, -0.0):
            for t in (0.0, -0.0):
                self.assertEqual(made(t, [-2.0 ** 600, point, 1], [1, 2, 3], [0, 0, 0]), told(2))
                self.assertEqual(made(t, [-1, point, 2.0 ** 600], [1, 2, 3], [0, 0, 0]), [-1])

    def test_at_the_ends_the_outer_stretches_count(self):
        x = [-1, 0, 2.0 ** 600]
        self.assertEqual(made(-1, x, [1, 2, 3], [0, 0, 0]), told(1))
        x = [-2.0 ** 600, 0, 1]
        self.assertEqual(made(1, x, [1, 2, 3], [0, 0, 0]), told(3))
        # The last point begins no stretch, the first one's counts though it is behind t.
        self.assertEqual(made(1, [0, 1], [1, 2], [0, 0]), told(2))
        self.assertEqual(made(-1, [0, 1], [1, 2], [0, 0]), told(0))
        self.assertEqual(made(2, [0, 1], [1, 2], [0, 0]), told(3))

    def test_beside_an_inner_point_by_the_last_bit(self):
        x = all_bits([-2.0 ** 600, 1, 2])
        y = all_bits([1, 2, 3])
        self.assertEqual(value(3, ONE - 1, x, y, [0] * 3), [-1])
        self.assertEqual(value(3, ONE, x, y, [0] * 3), told(2))
        self.assertEqual(value(3, ONE + 1, x, y, [0] * 3)[0], 0)


class Steps(unittest.TestCase):
    def test_a_a_a_is_a_a_times_a(self):
        # With x from 0 to 1 and y all 0, what is told is (b b b - b) s' by 6, put on 0.
        for b in (0.1, 0.3, 0.7, 1.7):
            expected = ((b * b) * b - b) / 6
            self.assertEqual(made(b, [0, 1], [0, 0], [0, 1]), told(expected))

    def test_by_six_is_a_quotient(self):
        b = 1.1
        bend = (b * b) * b - b
        self.assertNotEqual(bend / 6, bend * (1 / 6))
        self.assertEqual(made(b, [0, 1], [0, 0], [0, 1]), told(bend / 6))

    def test_the_sum_is_taken_times_h_h(self):
        # b is 2, so the sum is 6 s'; 0.1 times itself is made first.
        h, second = 0.1, 0.7
        self.assertNotEqual(6 * second * (h * h), 6 * second * h * h)
        self.assertEqual(made(2 * h, [0, h], [0, 0], [0, second]), told(6 * second * (h * h) / 6))
        self.assertEqual(made(2 * 2.0 ** -500, [0, 2.0 ** -500], [0, 0], [0, 2.0 ** 900]), told(2.0 ** -100))

    def test_h_h_that_is_lost(self):
        # h h is 0 here, though the sum times h, times h again, would be far above it.
        tiny = 2.0 ** -540
        self.assertEqual(made(2 * tiny, [0, tiny], [0, 0], [0, 2.0 ** 1000]), told(0))

    def test_the_bend_is_put_on_the_sum_of_both(self):
        # a y is 2^53, b y' 1 and is lost; a bend of 1 is lost too, unless it's put on b y' first.
        large = 2.0 ** 53
        self.assertEqual(made(-1, [0, 1], [large / 2, -1], [1, 0]), told(large))
        # A bend of 2 stays; put on a y first, the tie of 2^53 + 3 would go to 2^53 + 4.
        self.assertEqual(made(-1, [0, 1], [large / 2, -1], [2, 0]), told(large + 2))

    def test_signs_of_zero(self):
        less = all_bits([-1, -1])
        # a is 1 and b is 0: -0 and 0 times -1; the bends are 0 times -1, both -0.
        self.assertEqual(value(2, 0, [0, ONE], [NEGATIVE_ZERO, less[0]], less), [0, NEGATIVE_ZERO])
        self.assertEqual(value(2, 0, [0, ONE], [NEGATIVE_ZERO, ONE], less), [0, 0])
        self.assertEqual(value(2, 0, [0, ONE], [NEGATIVE_ZERO, less[0]], [ONE, ONE]), [0, 0])

    def test_results_that_are_not_finite(self):
        zeros = [0, 0]
        # The stretch; its square; t's distances; a; a a; a a a; the products; their sum.
        self.assertEqual(made(0, [-LARGE, LARGE], zeros, zeros), [-1])
        self.assertEqual(made(0, [0, 2.0 ** 512], zeros, zeros), [-1])
        self.assertEqual(made(0, [0, 2.0 ** 511], zeros, zeros), told(0))
        self.assertEqual(made(-LARGE, [LARGE / 2, LARGE], zeros, zeros), [-1])
        self.assertEqual(made(LARGE, [0, 2.0 ** -10], zeros, zeros), [-1])
        self.assertEqual(made(2.0 ** 512, [0, 1], zeros, zeros), [-1])
        self.assertEqual(made(2.0 ** 342, [0, 1], zeros, zeros), [-1])
        self.assertEqual(made(2.0 ** 341, [0, 1], zeros, zeros), told(0))
        self.assertEqual(made(2.0 ** 300, [0, 1], zeros, [0, 2.0 ** 124]), [-1])
        self.assertEqual(made(0.5, [0, 1], [LARGE, LARGE], zeros), told(LARGE))
        self.assertEqual(made(2, [0, 1], [LARGE, -LARGE], zeros), [-1])
        self.assertEqual(made(-1, [0, 1], [LARGE, 0], zeros), [-1])
        self.assertEqual(made(2, [0, 1], zeros, [0, LARGE]), [-1])
        # The sum times the square; the line and the bend together.
        self.assertEqual(made(2 * 2.0 ** 500, [0, 2.0 ** 500], zeros, [0, 2.0 ** 22]), [-1])
        self.assertEqual(made(2, [0, 1], [0, LARGE / 2], [0, LARGE / 8]), [-1])


class Refusals(unittest.TestCase):
    def test_wrong_sizes(self):
        for wrong in WRONG_SIZES:
            self.assertEqual(value(wrong, ONE, [], [], []), [-8])

    def test_one_point(self):
        self.assertEqual(value(1, ONE, [ONE], [ONE], [ONE]), [-8])
        self.assertEqual(value(1, NOT_FINITE[0], [NOT_FINITE[1]], [NOT_FINITE[2]], [NOT_FINITE[3]]), [-8])

    def test_x_that_is_not_rising(self):
        for x in ([1, 0], [1, 1], [-1, -2], [-1, -1], [1, -1], [0, 0], [0, -0.0], [-0.0, 0]):
            self.assertEqual(made(0, x, [0, 0], [0, 0]), [-8])
        for x in ([0, 2, 1], [0, 0, 1], [0, 1, 1], [-1, 0, -0.0], [-0.0, 0, 1]):
            self.assertEqual(made(0, x, [0] * 3, [0] * 3), [-8])
        x = all_bits(range(32))
        for place in range(31):
            self.assertEqual(value(32, 0, placed(x, place, x[place + 1]), x, x), [-8])

    def test_not_finite_in_each_place_of_each_list(self):
        x = all_bits([0, 1, 2])
        self.assertEqual(value(3, ONE, x, x, x)[0], 0)
        for wrong in NOT_FINITE:
            self.assertEqual(value(3, wrong, x, x, x), [-1])
            for place in range(3):
                spoilt = placed(x, place, wrong)
                # t lies in the first stretch, so the last number has no part in a step.
                self.assertEqual(value(3, 0, spoilt, x, x), [-1])
                self.assertEqual(value(3, 0, x, spoilt, x), [-1])
                self.assertEqual(value(3, 0, x, x, spoilt), [-1])

    def test_sizes_come_before_doubles(self):
        for wrong in NOT_FINITE:
            for size in WRONG_SIZES:
                self.assertEqual(value(size, wrong, [], [], []), [-8])

    def test_doubles_come_before_rising(self):
        ones = [ONE, ONE]
        for wrong in NOT_FINITE:
            self.assertEqual(value(2, wrong, ones, ones, ones), [-1])
            self.assertEqual(value(2, ONE, ones, [ONE, wrong], ones), [-1])
            self.assertEqual(value(2, ONE, ones, ones, [ONE, wrong]), [-1])
            self.assertEqual(value(3, ONE, ones + [wrong], ones + ones[:1], ones + ones[:1]), [-1])

    def test_rising_comes_before_the_steps(self):
        self.assertEqual(made(LARGE, [LARGE, -LARGE], [LARGE, LARGE], [LARGE, LARGE]), [-8])
        self.assertEqual(made(LARGE, [0, 1, 1], [0] * 3, [0] * 3), [-8])


class Callers(unittest.TestCase):
    def test_what_is_handed_in_stays_and_a_second_call_answers_the_same(self):
        x = all_bits([0, 1, 3, 4])
        for arguments in (
            (4, ONE, x, x, x), (4, bits(9.0), x, all_bits([0, 1, 0, 2]), [0] * 4), (2, 0, [ONE] * 2, [0] * 2, [0] * 2),
            (2, LARGEST, x[:2], x[:2], x[:2]), (2, NOT_FINITE[0], x[:2], x[:2], x[:2]), (1, 0, [0], [0], [0]),
            (33, 0, [], [], []),
        ):
            check_pure(self, value, *arguments)

    def test_the_answer_is_a_list_of_whole_numbers(self):
        for answer in (value(2, 0, [0, ONE], [0, 0], [0, 0]), value(2, 0, [0] * 2, [0] * 2, [0] * 2), value(0, 0, [], [], [])):
            check_kind(self, answer)


if __name__ == "__main__":
    unittest.main()
