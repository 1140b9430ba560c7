"""Point 8, jacobi, and what the document says ahead of it."""

import unittest

from bitmatrix.desk import jacobi
from tests import native
from tests.checks import check_kind, check_pure, check_same, drawn, placed, same_turned_about
from tests.native import LARGEST, NEGATIVE_ZERO, NOT_FINITE, SMALLEST, WRONG_SIZES, all_bits, bits, seeded

ONE = 0x3FF0000000000000
# 1 by the root of 2.
SLANT = 0x3FE6A09E667F3BCC
WRONG_ROUNDS = (-1, 65, -2147483648, 2147483647)


def made(n, rounds, numbers):
    return jacobi(n, rounds, all_bits(numbers))


def unit(n):
    return all_bits([1 if i % (n + 1) == 0 else 0 for i in range(n * n)])


def alike(source, n, draw):
    return same_turned_about(n, drawn(source, draw, n * (n + 1) // 2))


def near(source):
    return native.near_double(source, 3)


class Ordinary(unittest.TestCase):
    def test_one_by_one(self):
        for x in (ONE, 0, NEGATIVE_ZERO, SMALLEST, LARGEST):
            for rounds in (0, 1, 64):
                self.assertEqual(jacobi(1, rounds, [x]), [0, x, ONE])

    def test_two_by_two(self):
        # Values 1 and 3, and the vectors turned by half a right angle.
        self.assertEqual(made(2, 1, [2, 1, 1, 2]), [
            0, 0x3FEFFFFFFFFFFFFE, 0x4007FFFFFFFFFFFF, SLANT, SLANT, SLANT | NEGATIVE_ZERO, SLANT,
        ])
        self.assertEqual(made(2, 1, [1, 2, 2, 4]), [
            0, 0, 0x4014000000000000,
            0x3FEC9F25C5BFEDD9, 0x3FDC9F25C5BFEDD9, 0xBFDC9F25C5BFEDD9, 0x3FEC9F25C5BFEDD9,
        ])

    def test_three_by_three_over_several_rounds(self):
        a = all_bits([2, -1, 0, -1, 2, -1, 0, -1, 2])
        self.assertEqual(jacobi(3, 1, a), [
            0, 0x3FE4498517A7B356, 0x400B17710A916E5F, 0x3FFFAC5B5F094996,
            0x3FE41845ECB9BB91, 0xBFDBA35DBA0554B9, 0xBFE4B7C880CB2422,
            0x3FE41845ECB9BB91, 0x3FE8B8EDFFC6118E, 0x3FB800BE7EEFBB24,
            0x3FDD6BBD1610F4C8, 0xBFDDC9D3DD2F3CAF, 0x3FE833DE37A34031,
        ])
        self.assertEqual(jacobi(3, 2, a)[:4], [0, 0x3FE2BEC647AF6174, 0x400B504E6E225463, 0x3FFFFFFFFFE3A674])
        self.assertEqual(jacobi(3, 4, a)[:4], [0, 0x3FE2BEC333018867, 0x400B504F333F9DE1, 0x3FFFFFFFFFFFFFFF])
        # In the end h is so great that its square is not finite.
        self.assertEqual(jacobi(3, 64, a), [-1])

    def test_values_come_as_they_stand_and_vectors_in_their_columns(self):
        answer = jacobi(3, 3, all_bits([5, 0, 1, 0, 9, 0, 1, 0, 2]))
        values = [native.number(x) for x in answer[1:4]]
        vectors = [[native.number(x) for x in answer[4 + j::3]] for j in range(3)]
        self.assertEqual(values[1], 9)
        self.assertTrue(values[0] > 5 > 2 > values[2])
        self.assertEqual(vectors[1], [0, 1, 0])
        for value, (x, y, z) in zip(values, vectors, strict=True):
            for made_here, told_here in ((5 * x + z, x), (9 * y, y), (x + 2 * z, z)):
                self.assertAlmostEqual(made_here, value * told_here, 12)

    def test_largest_size_with_known_answer(self):
        values = all_bits(range(-16, 16))
        a = [values[i // 32] if i % 33 == 0 else 0 for i in range(1024)]
        self.assertEqual(jacobi(32, 64, a), [0] + values + unit(32))
        # Each pair of neighbours turns by itself, and after that nothing is left to turn.
        pairs = [2 if i % 33 == 0 else 1 if i // 32 // 2 == i % 32 // 2 else 0 for i in range(1024)]
        answer = made(32, 64, pairs)
        self.assertEqual(answer[:33], [0] + [0x3FEFFFFFFFFFFFFE, 0x4007FFFFFFFFFFFF] * 16)
        self.assertEqual(answer[33:35] + answer[65:67], [SLANT, SLANT, SLANT | NEGATIVE_ZERO, SLANT])
        self.assertEqual(answer, native.jacobi(32, 64, all_bits(pairs)))

    def test_all_sizes_against_the_machine(self):
        source = seeded(101)
        inputs = [(n, 1, alike(source, n, near)) for n in range(1, 33)]
        inputs += [(n, rounds, alike(source, n, near)) for n in range(2, 9) for rounds in (2, 3, 4)]
        inputs += [(32, 3, alike(source, 32, near))]
        self.assertEqual(check_same(self, jacobi, native.jacobi, inputs), {0: len(inputs)})

    def compare(self, seed, draw, count):
        source = seeded(seed)
        inputs = []
        for _ in range(count):
            n = source.randint(1, 4)
            inputs.append((n, source.choice((0, 1, 2, 3, 5, 8, 64)), alike(source, n, draw)))
        return check_same(self, jacobi, native.jacobi, inputs)

    def test_like_doubles_against_the_machine(self):
        seen = self.compare(102, near, 300)
        self.assertTrue(min(seen[0], seen[-1]) > 50)

    def test_any_doubles_against_the_machine(self):
        seen = self.compare(103, native.any_double, 2000)
        self.assertTrue(min(seen[0], seen[-1]) > 100)

    def test_small_whole_numbers_against_the_machine(self):
        seen = self.compare(104, native.small_whole, 500)
        self.assertTrue(min(seen[0], seen[-1]) > 50)

    def test_zeros_and_doubles_against_the_machine(self):
        seen = self.compare(105, native.near_double_or_zero, 500)
        self.assertTrue(min(seen[0], seen[-1]) > 50)

    def test_large_numbers_against_the_machine(self):
        seen = self.compare(106, native.large_or_small, 2000)
        self.assertTrue(min(seen[0], seen[-1]) > 100)


class Rounds(unittest.TestCase):
    def test_none(self):
        a = all_bits([1, 2, 3, 2, 4, 5, 3, 5, 6])
        self.assertEqual(jacobi(3, 0, a), [0] + all_bits([1, 4, 6]) + unit(3))
        self.assertEqual(jacobi(2, 0, [LARGEST] * 4), [0, LARGEST, LARGEST] + unit(2))
        self.assertEqual(jacobi(32, 0, [SMALLEST] * 1024), [0] + [SMALLEST] * 32 + unit(32))

    def test_where_nothing_is_left_to_turn_rounds_change_nothing(self):
        for numbers in ([2, 1, 1, 2], [1, 2, 2, 4], [3, -0.25, -0.25, -7]):
            once = made(2, 1, numbers)
            for rounds in (2, 3, 64):
                self.assertEqual(made(2, rounds, numbers), once)

    def test_one_after_another(self):
        # p, q go 0 1, 0 2, 1 2; the last turn's number is 0 only once it was made so.
        a = all_bits([1, 0, 1, 0, 2, 0, 1, 0, 3])
        self.assertEqual(jacobi(3, 1, a), jacobi(3, 5, a))
        b = all_bits([1, 1, 0, 1, 2, 1, 0, 1, 3])
        self.assertNotEqual(jacobi(3, 1, b), jacobi(3, 2, b))

    def test_pairs_in_their_order(self):
        # The first turn is of 0 and 1; were it of 1 and 2, the vectors' first row would be the unit table's.
        answer = made(3, 1, [2, 1, 0, 1, 2, 0, 0, 0, 5])
        self.assertEqual(answer[4:], [
            SLANT, SLANT, 0, SLANT | NEGATIVE_ZERO, SLANT, 0, 0, 0, ONE,
        ])
        a = [1, 2, 3, 2, 5, 6, 3, 6, 11]
        self.assertEqual(made(3, 1, a), native.jacobi(3, 1, all_bits(a)))


class Zeros(unittest.TestCase):
    def test_zero_of_either_sign_is_passed_over(self):
        for zero in (0, NEGATIVE_ZERO):
            for rounds in (1, 64):
                # With a step, the diagonals' difference would not be finite.
                a = [LARGEST, zero, zero, LARGEST | NEGATIVE_ZERO]
                self.assertEqual(jacobi(2, rounds, a), [0, LARGEST, LARGEST | NEGATIVE_ZERO] + unit(2))
                a = [NEGATIVE_ZERO, zero, zero, NEGATIVE_ZERO]
                self.assertEqual(jacobi(2, rounds, a), [0, NEGATIVE_ZERO, NEGATIVE_ZERO] + unit(2))

    def test_h_of_zero_and_its_sign(self):
        # h is 0 by 2, then 0 by -2, that's -0: u goes the other way.
        self.assertEqual(made(2, 1, [2, 1, 1, 2])[3:], [SLANT, SLANT, SLANT | NEGATIVE_ZERO, SLANT])
        self.assertEqual(made(2, 1, [2, -1, -1, 2])[3:], [SLANT, SLANT | NEGATIVE_ZERO, SLANT, SLANT])
        self.assertEqual(made(2, 1, [0, 1, 1, -0.0])[3:], [SLANT, SLANT | NEGATIVE_ZERO, SLANT, SLANT])
        self.assertEqual(made(2, 1, [-0.0, 1, 1, 0])[3:], [SLANT, SLANT, SLANT | NEGATIVE_ZERO, SLANT])

    def test_h_of_either_sign(self):
        for x, y, sign in ((1, 4, 1), (4, 1, -1)):
            for number in (2, -2):
                s = native.number(made(2, 1, [x, number, number, y])[4])
                self.assertTrue(s * sign * number > 0)

    def test_later_turns_go_on_from_zero(self):
        # The number at 0, 1 is made 0, and the turns of 0, 2 and 1, 2 make it another one again.
        a = all_bits([2, 1, 1, 1, 2, 1, 1, 1, 2])
        for rounds in (1, 2, 3):
            self.assertEqual(jacobi(3, rounds, a), native.jacobi(3, rounds, a))


class Steps(unittest.TestCase):
    def test_signs_of_zero_in_the_vectors(self):
        # s is below 0 here: s times 0 is -0, and put on c times 0 it is 0.
        answer = made(3, 1, [2, -1, 0, -1, 2, 0, 0, 0, 5])
        self.assertEqual(answer[6:], [0, SLANT, SLANT, 0, 0, 0, ONE])

    def test_results_that_are_not_finite(self):
        less = LARGEST | NEGATIVE_ZERO
        half = LARGEST - (1 << 52)
        # The number doubled; the diagonals' difference; h; its square.
        self.assertEqual(jacobi(2, 1, [ONE, LARGEST, LARGEST, ONE]), [-1])
        self.assertEqual(jacobi(2, 1, [less, ONE, ONE, LARGEST]), [-1])
        self.assertEqual(made(2, 1, [0, 2.0 ** -600, 2.0 ** -600, 2.0 ** 600]), [-1])
        self.assertEqual(made(2, 1, [0, 1, 1, 2.0 ** 513]), [-1])
        self.assertEqual(made(2, 1, [0, 1, 1, 2.0 ** 512])[0], 0)
        # A number of the table that is turned.
        self.assertEqual(jacobi(2, 1, [LARGEST, half, half, LARGEST]), [-1])
        # Another row's number.
        self.assertEqual(made(3, 1, [0, 1, 0, 1, 0, 0, 0, 0, 1.5 * 2.0 ** 1023])[0], 0)
        self.assertEqual(jacobi(3, 1, same_turned_about(3, [0, ONE, 0, LARGEST, LARGEST, 0])), [-1])

    def test_a_small_number_beside_great_ones(self):
        self.assertEqual(jacobi(2, 1, [ONE, SMALLEST, SMALLEST, ONE])[0], 0)
        self.assertEqual(jacobi(2, 1, [ONE, SMALLEST, SMALLEST, bits(2.0)]), [-1])

    def test_no_two_steps_are_made_one(self):
        source = seeded(107)
        for _ in range(200):
            a = alike(source, 2, lambda s: native.near_double(s, 1))
            self.assertEqual(jacobi(2, 1, a), native.jacobi(2, 1, a))


class Refusals(unittest.TestCase):
    def test_wrong_sizes(self):
        for wrong in WRONG_SIZES:
            for rounds in (0, 1, 64) + WRONG_ROUNDS:
                self.assertEqual(jacobi(wrong, rounds, []), [-8])

    def test_wrong_rounds(self):
        for wrong in WRONG_ROUNDS:
            self.assertEqual(jacobi(1, wrong, [ONE]), [-8])
            self.assertEqual(jacobi(2, wrong, [ONE] * 4), [-8])
        self.assertEqual(jacobi(1, 0, [ONE])[0], 0)
        self.assertEqual(jacobi(1, 64, [ONE])[0], 0)

    def test_not_the_same_turned_about(self):
        for rounds in (0, 1, 64):
            self.assertEqual(made(2, rounds, [4, 1, 2, 4]), [-8])
            self.assertEqual(made(2, rounds, [4, -1, 1, 4]), [-8])
            self.assertEqual(jacobi(2, rounds, [ONE, 0, NEGATIVE_ZERO, ONE]), [-8])
            self.assertEqual(jacobi(2, rounds, [ONE, NEGATIVE_ZERO, 0, ONE]), [-8])
            self.assertEqual(jacobi(3, rounds, all_bits([1, 0, 0, 0, 1, 0, 0, -0.0, 1])), [-8])
        for place in (1, 31, 32, 62, 992, 1022):
            self.assertEqual(jacobi(32, 0, placed([0] * 1024, place, SMALLEST)), [-8])

    def test_not_finite_in_each_place(self):
        a = all_bits([4, 1, 1, 1, 4, 1, 1, 1, 4])
        for wrong in NOT_FINITE:
            self.assertEqual(jacobi(1, 0, [wrong]), [-1])
            self.assertEqual(jacobi(2, 0, [ONE, wrong, wrong, ONE]), [-1])
            for place in range(9):
                self.assertEqual(jacobi(3, 0, placed(a, place, wrong)), [-1])
        self.assertEqual(jacobi(32, 0, [0] * 1023 + [NOT_FINITE[0]]), [-1])

    def test_rounds_come_before_doubles_and_turning_about(self):
        for rounds in WRONG_ROUNDS:
            self.assertEqual(jacobi(1, rounds, [NOT_FINITE[0]]), [-8])
            self.assertEqual(jacobi(2, rounds, [ONE, NOT_FINITE[2], ONE, ONE]), [-8])
            self.assertEqual(made(2, rounds, [1, 2, 3, 4]), [-8])

    def test_doubles_come_before_turning_about(self):
        for wrong in NOT_FINITE:
            self.assertEqual(jacobi(2, 1, [ONE, 0, ONE, wrong]), [-1])
            self.assertEqual(jacobi(2, 1, [ONE, wrong, ONE, ONE]), [-1])

    def test_turning_about_comes_before_the_steps(self):
        self.assertEqual(jacobi(2, 1, [ONE, LARGEST, LARGEST - 1, ONE]), [-8])


class Callers(unittest.TestCase):
    def test_what_is_handed_in_stays_and_a_second_call_answers_the_same(self):
        for arguments in (
            (3, 2, all_bits([2, -1, 0, -1, 2, -1, 0, -1, 2])), (2, 1, all_bits([1, 2, 3, 4])), (2, 0, [ONE] * 4),
            (2, 1, [ONE, LARGEST, LARGEST, ONE]), (2, 1, [NOT_FINITE[2]] * 4), (2, 65, [ONE] * 4), (33, 1, []),
        ):
            check_pure(self, jacobi, *arguments)

    def test_the_answer_is_a_list_of_whole_numbers(self):
        for answer in (jacobi(1, 1, [ONE]), jacobi(2, 1, [ONE] * 4), jacobi(0, 1, [])):
            check_kind(self, answer)


if __name__ == "__main__":
    unittest.main()
