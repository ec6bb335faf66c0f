"""Point 12: size."""

import unittest

from tests.helper import INF, Numbers, half, halves, last_answer, model_size, size


class Size(unittest.TestCase):
    def test_one_half_for_each_number(self):
        self.assertEqual(last_answer(size(halves(3, 4, 8, 1))), [0] + halves(5.125, 8.375))

    def test_the_greater_may_be_either(self):
        self.assertEqual(last_answer(size(halves(4, 3, 3, 4))), [0] + halves(5.125, 5.125))

    def test_signs_count_for_nothing(self):
        self.assertEqual(last_answer(size(halves(-3, 4, 3, -4, -4, -3))), [0] + halves(5.125, 5.125, 5.125))

    def test_equal_halves(self):
        self.assertEqual(last_answer(size(halves(1, 1, -1, 1, -8, -8))), [0] + halves(1.375, 1.375, 11))

    def test_0_has_no_minus(self):
        self.assertEqual(last_answer(size([0, 0, 0x8000, 0x8000, 0, 0x8000, 0x8000, 0])), [0, 0, 0, 0, 0])
        self.assertEqual(last_answer(size([0x8000, 0xBC00, 0x3C00, 0x8000])), [0, 0x3C00, 0x3C00])

    def test_it_is_rounded_once(self):
        # 0.375 times the lesser one, rounded by itself, would leave 4278, 40F6 and 40E8.
        row = [0x39DA, 0x41EB, 0x3F52, 0x3EF3, 0xBEF6, 0xBF35]
        self.assertEqual(last_answer(size(row)), [0, 0x4277, 0x40F7, 0x40E9])

    def test_of_two_as_near_the_even_one(self):
        # 2048 + 3, 2048 + 9 and 2050 + 3, where every second whole number is a half.
        self.assertEqual(last_answer(size(halves(2048, 8, 2048, 24, 8, 2050))), [0] + halves(2052, 2056, 2052))

    def test_the_least_halves(self):
        # In counts of 2^-24: 1.375, 2.75, 5.5 and 16.5.
        row = [0x0001, 0x0001, 0x0002, 0x8002, 0x0004, 0x0004, 0x000C, 0x800C]
        self.assertEqual(last_answer(size(row)), [0, 0x0001, 0x0003, 0x0006, 0x0010])

    def test_infinite_where_it_is_too_great(self):
        self.assertEqual(last_answer(size([0x7BFF, 0x7BFF])), [0, INF])
        self.assertEqual(last_answer(size([0xFBFF, 0xFBFF])), [0, INF])
        self.assertEqual(last_answer(size([0x7BFF, half(42.65625), 0x7BFF, half(42.6875)])), [0, 0x7BFF, INF])


class AgainstTheModel(unittest.TestCase):
    def check(self, row):
        self.assertEqual(last_answer(size(row)), [0] + model_size(row), row)

    def test_ordinary_numbers(self):
        for seed in range(20):
            self.check(Numbers(seed).row_between(60, 0x3000, 0x4400))

    def test_tiny_numbers(self):
        for seed in range(10):
            self.check(Numbers(seed).row_between(60, 0x0000, 0x0800))

    def test_great_numbers(self):
        for seed in range(10):
            self.check(Numbers(seed).row_between(60, 0x7000, 0x7BFF))

    def test_1_and_256_numbers_of_all_sizes(self):
        for count in (1, 256):
            self.check(Numbers(count).rows_of_all_sizes(2 * count))


if __name__ == "__main__":
    unittest.main()
