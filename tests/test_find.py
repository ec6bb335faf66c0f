"""Point 10: find."""

import unittest

from tests.helper import INF, NAN, Numbers, find, half, halves, last_answer, model_find


def reals(*numbers):
    return [part for number in numbers for part in (half(number), 0)]


class Find(unittest.TestCase):
    def test_the_place_and_then_the_strength(self):
        self.assertEqual(last_answer(find(reals(0, 0, 3, 0), reals(1))), [2] + halves(9))

    def test_a_code_of_complex_numbers(self):
        signal = halves(0, 0, 1, 2, 3, -1, 0, 1, 0, 0)
        code = halves(1, 2, 3, -1, 0, 1)
        self.assertEqual(last_answer(find(signal, code)), [1] + halves(256))

    def test_the_code_s_opposite_counts(self):
        # At place 2 both numbers by the opposites are 1; by the code itself they'd be -1 and 1, and 1 and 1 at place 0.
        signal = halves(0, -1, 1, 0, 0, 1, 1, 0)
        self.assertEqual(last_answer(find(signal, halves(0, 1, 1, 0))), [2] + halves(4))

    def test_a_code_turned_is_as_strong(self):
        code = halves(1, 0, 0, 1, -1, 0)
        for turned in (halves(-1, 0, 0, -1, 1, 0), halves(0, 1, -1, 0, 0, -1), halves(0, -1, 1, 0, 0, 1)):
            self.assertEqual(last_answer(find(halves(0, 0, 0, 0) + turned, code)), [2] + halves(9))

    def test_both_parts_are_in_the_strength(self):
        self.assertEqual(last_answer(find(halves(4, 0, 3, 3, 0, -4), halves(1, 0))), [1] + halves(18))

    def test_a_code_of_one_number_is_looked_for_at_every_place(self):
        for count in (1, 2, 17, 256):
            for place in (0, count // 2, count - 1):
                numbers = [1] * count
                numbers[place] = -2
                if count > 1:
                    self.assertEqual(last_answer(find(reals(*numbers), reals(1))), [place] + halves(4))
        self.assertEqual(last_answer(find(reals(-2), reals(3))), [0] + halves(36))

    def test_a_code_as_long_as_the_signal_has_one_place(self):
        for count in (1, 2, 16, 17, 256):
            signal = reals(*[0.5] * count)
            self.assertEqual(last_answer(find(signal, reals(*[0.5] * count))), [0] + halves(count * count / 16))

    def test_the_last_place_is_n_less_m(self):
        self.assertEqual(last_answer(find(reals(0, 0, 0, 1, 1), reals(1, 1))), [3] + halves(4))
        self.assertEqual(last_answer(find(reals(*[0] * 255 + [1]), reals(0, 1))), [254] + halves(1))

    def test_of_places_as_strong_the_first(self):
        self.assertEqual(last_answer(find(reals(0, 1, 0, -1, 1), reals(1))), [1] + halves(1))
        self.assertEqual(last_answer(find(halves(0, 0, 3, 4, 5, 0, 0, -5), halves(1, 0))), [1] + halves(25))
        self.assertEqual(last_answer(find(reals(1, 2, 2, 1), reals(1))), [1] + halves(4))

    def test_all_0_is_the_first_place(self):
        self.assertEqual(last_answer(find([0x8000, 0x0000] * 5, reals(1, 1))), [0, 0x0000])
        self.assertEqual(last_answer(find([0x8001, 0x8001] * 5, [0x3800, 0x0000])), [0, 0x0000])

    def test_strengths_that_differ_in_the_last_bit(self):
        self.assertEqual(last_answer(find([0x3C00, 0, 0x3C01, 0, 0x3C00, 0], reals(1))), [1, 0x3C02])

    def test_the_other_part_s_square_is_rounded_by_itself_the_real_part_s_is_not(self):
        self.assertEqual(last_answer(find([0x438E, 0x439D], reals(1))), [0, 0x4F31])
        self.assertEqual(last_answer(find([0x439D, 0x438E], reals(1))), [0, 0x4F30])
        self.assertEqual(last_answer(find([0x407E, 0x4017], reals(1))), [0, 0x489D])
        self.assertEqual(last_answer(find([0x3A3E, 0x3ADA], reals(1))), [0, 0x3D5E])

    def test_the_sums_are_sums_of_sixteen(self):
        numbers = [0] * 17
        numbers[0] = 64
        numbers[8] = numbers[16] = 0.03125
        # 64 and 2^-5 in one sum are 64, and so again with the other 2^-5; together the two would be 64.0625.
        self.assertEqual(last_answer(find(reals(*numbers), reals(*[1] * 17))), [0] + halves(4096))
        numbers[0], numbers[1], numbers[16], numbers[9] = 64, 0.03125, 0, 0.03125
        numbers[8] = 0
        self.assertEqual(last_answer(find(reals(*numbers), reals(*[1] * 17))), [0, half(4104)])


class InfiniteStrengths(unittest.TestCase):
    def test_infinite_is_above_all_others(self):
        self.assertEqual(last_answer(find(reals(255, 256, 1), reals(1))), [1, INF])
        self.assertEqual(last_answer(find(halves(0, 255, 0, -256), reals(1))), [1, INF])

    def test_of_infinite_ones_the_first(self):
        self.assertEqual(last_answer(find(reals(1, 256, 1000, -256), reals(1))), [1, INF])

    def test_infinite_sums(self):
        self.assertEqual(last_answer(find([0, 0, 0xFBFF, 0], reals(2))), [1, INF])
        self.assertEqual(last_answer(find([0, 0, 0, 0x7BFF], reals(2))), [1, INF])


class NoNumber(unittest.TestCase):
    # The code takes two numbers, one apart: two that go to infinity both ways are no number together.
    CODE = reals(2, 0, 2)

    def found(self, *signal):
        return last_answer(find(list(signal), self.CODE))

    def test_it_is_below_a_strength_behind_it(self):
        self.assertEqual(self.found(0x7BFF, 0, 0x3C00, 0, 0xFBFF, 0, 0x3C00, 0), [1] + halves(16))

    def test_it_is_below_a_strength_ahead_of_it(self):
        self.assertEqual(self.found(0x3C00, 0, 0x7BFF, 0, 0x3C00, 0, 0xFBFF, 0), [0] + halves(16))

    def test_it_is_below_0(self):
        self.assertEqual(self.found(0x7BFF, 0, 0, 0, 0xFBFF, 0, 0, 0), [1, 0x0000])
        self.assertEqual(self.found(0x7BFF, 0, 0x8000, 0, 0xFBFF, 0, 0x8000, 0), [1, 0x0000])
        self.assertEqual(self.found(0, 0, 0x7BFF, 0, 0, 0, 0xFBFF, 0), [0, 0x0000])

    def test_it_is_below_infinite(self):
        self.assertEqual(self.found(0x7BFF, 0, 0x7BFF, 0, 0xFBFF, 0, 0x7BFF, 0), [1, INF])
        self.assertEqual(self.found(0x7BFF, 0, 0x7BFF, 0, 0x7BFF, 0, 0xFBFF, 0), [0, INF])

    def test_it_stands_between_others(self):
        # Of the five places, the second and the fourth take two that go to infinity both ways.
        signal = reals(1, 65504, 3, -65504, 2, 65504, 1)
        self.assertEqual(self.found(*signal), [2] + halves(100))

    def test_where_all_are_no_number_it_is_the_first_place_and_7e00(self):
        self.assertEqual(self.found(0x7BFF, 0, 0, 0, 0xFBFF, 0), [0, NAN])
        self.assertEqual(self.found(0x7BFF, 0, 0xFBFF, 0, 0xFBFF, 0, 0x7BFF, 0), [0, NAN])

    def test_one_part_that_is_no_number_is_enough(self):
        self.assertEqual(self.found(0, 0x7BFF, 0x3C00, 0, 0, 0xFBFF, 0x3C00, 0), [1] + halves(16))
        self.assertEqual(self.found(0x7BFF, 0x7BFF, 0x3C00, 0, 0xFBFF, 0x7BFF, 0x3C00, 0), [1] + halves(16))


class AgainstTheModel(unittest.TestCase):
    def check(self, a, code):
        self.assertEqual(last_answer(find(a, code)), model_find(a, code), (a, code))

    def test_ordinary_numbers(self):
        for seed in range(40):
            numbers = Numbers(seed)
            count = 1 + numbers.below(24)
            code = 1 + numbers.below(count)
            self.check(numbers.row_between(2 * count, 0x2C00, 0x4400), numbers.row_between(2 * code, 0x2C00, 0x4400))

    def test_few_values_so_that_strengths_are_the_same(self):
        for seed in range(40):
            numbers = Numbers(seed)
            made = lambda count: [(0x0000, 0x8000, 0x3C00, 0xBC00)[numbers.below(4)] for _ in range(count)]
            self.check(made(40), made(2 + 2 * numbers.below(6)))

    def test_numbers_of_all_sizes(self):
        for seed in range(60):
            numbers = Numbers(seed)
            self.check(numbers.rows_of_all_sizes(24), numbers.rows_of_all_sizes(2 + 2 * numbers.below(4)))

    def test_tiny_numbers(self):
        for seed in range(10):
            numbers = Numbers(seed)
            self.check(numbers.row_between(40, 0x0000, 0x1000), numbers.row_between(8, 0x0000, 0x3C00))

    def test_256_numbers(self):
        numbers = Numbers(41)
        self.check(numbers.row_between(512, 0x2C00, 0x4400), numbers.row_between(500, 0x2C00, 0x4400))
        self.check(numbers.row_between(512, 0x2C00, 0x4400), numbers.row_between(2, 0x2C00, 0x4400))


if __name__ == "__main__":
    unittest.main()
