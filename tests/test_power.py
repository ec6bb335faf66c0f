"""Point 9: power."""

import unittest

from tests.helper import INF, Numbers, half, halves, last_answer, model_power, power


def powered(numbers, count=32):
    """The power of so many halves, all 0 but those that are told by their places."""
    row = [0] * count
    for place, number in numbers.items():
        row[place] = half(number)
    return last_answer(power(row))


# 32 times 32 is 1024; what 0.625 by itself adds to that is rounded off, what two of them add is not.
LOST = [0] + halves(1024)
FOUND = [0] + halves(1025)


class Power(unittest.TestCase):
    def test_one_number(self):
        self.assertEqual(last_answer(power(halves(3, 4))), [0] + halves(25))

    def test_a_minus_counts_for_nothing(self):
        self.assertEqual(last_answer(power(halves(-3, 4, 1, -2))), [0] + halves(30))

    def test_ones_count(self):
        for count in (1, 2, 15, 16, 17, 31, 32, 33, 255, 256):
            self.assertEqual(last_answer(power(halves(*[1, 1] * count))), [0] + halves(2 * count))

    def test_all_0(self):
        self.assertEqual(last_answer(power([0x8000, 0x8000])), [0, 0x0000])
        self.assertEqual(last_answer(power([0x8000, 0x0000] * 40)), [0, 0x0000])

    def test_squares_of_the_least_halves_are_0(self):
        self.assertEqual(last_answer(power([0x0001, 0x8001] * 256)), [0, 0x0000])

    def test_the_half_at_32_goes_to_the_first_sum(self):
        self.assertEqual(powered({0: 32, 32: 0.625, 64: 0.625}, 66), LOST)
        self.assertEqual(powered({0: 32, 1: 0.625, 33: 0.625}, 34), FOUND)
        self.assertEqual(powered({31: 32, 30: 0.625, 62: 0.625}, 64), FOUND)

    def test_in_a_sum_the_order_is_the_row_s(self):
        self.assertEqual(powered({3: 0.625, 35: 0.625, 67: 32}, 68), FOUND)
        self.assertEqual(powered({3: 32, 35: 0.625, 67: 0.625}, 68), LOST)

    def test_sums_meet_sixteen_apart_then_eight_then_four_then_two_then_one(self):
        for reach in (16, 8, 4, 2):
            self.assertEqual(powered({0: 32, reach // 2: 0.625, reach // 2 + reach: 0.625}), FOUND)
            self.assertEqual(powered({0: 32, reach: 0.625, reach // 2: 0.625}), LOST)

    def test_a_square_is_not_rounded_by_itself(self):
        # 2^-11 and (1 + 2^-10) squared, which would be 1 + 2^-9 by itself, in one sum.
        row = [0] * 66
        row[0] = row[32] = half(2 ** -6)
        row[64] = 0x3C01
        self.assertEqual(last_answer(power(row)), [0, 0x3C03])

    def test_infinite_where_it_is_too_great(self):
        self.assertEqual(last_answer(power(halves(256, 0))), [0, INF])
        self.assertEqual(last_answer(power(halves(200, -200))), [0, INF])
        self.assertEqual(last_answer(power([0xFBFF] * 512)), [0, INF])
        self.assertEqual(last_answer(power(halves(128, 128, 128, 0))), [0] + halves(49152))

    def test_what_got_infinite_stays_so(self):
        self.assertEqual(powered({0: 256, 32: 1, 5: 3}, 64), [0, INF])


class AgainstTheModel(unittest.TestCase):
    def check(self, row):
        self.assertEqual(last_answer(power(row)), [0] + model_power(row), row)

    def test_ordinary_numbers_of_every_length_around_32(self):
        for count in range(1, 70):
            self.check(Numbers(count).row_between(2 * count, 0x2C00, 0x4400))

    def test_tiny_numbers(self):
        for seed in range(10):
            self.check(Numbers(seed).row_between(80, 0x0000, 0x1400))

    def test_numbers_of_all_sizes(self):
        for seed in range(20):
            self.check(Numbers(seed).rows_of_all_sizes(2 + 4 * seed))

    def test_great_numbers(self):
        for seed in range(20):
            self.check(Numbers(seed).row_between(2 + 8 * seed, 0x4800, 0x5400))

    def test_256_numbers(self):
        self.check(Numbers(41).row_between(512, 0x2C00, 0x4400))


if __name__ == "__main__":
    unittest.main()
