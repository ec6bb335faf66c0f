"""Points 14 and 15: read and write."""

import unittest

from tests.helper import (
    INF, MINUS, Numbers, each_answer, half, halves, last_answer, model_read, model_write, read, write,
)

ALL_SYMBOLS = list(range(16))


class Read(unittest.TestCase):
    def test_each_of_the_sixteen(self):
        parts = (3, -3, 1, -1)
        signal = [part for bits in ALL_SYMBOLS for part in halves(parts[bits % 4], parts[bits // 4])]
        self.assertEqual(last_answer(read(signal, half(1))), [0] + ALL_SYMBOLS)

    def test_bit_0_and_bit_1_are_of_the_real_half(self):
        self.assertEqual(last_answer(read(halves(-3, 3, 1, 3, 3, -3, 3, 1), half(1))), [0, 1, 2, 4, 8])

    def test_0_is_near_and_has_no_minus(self):
        row = [0x0000, 0x0000, 0x8000, 0x8000, 0x8000, 0x0000]
        self.assertEqual(last_answer(read(row, half(1))), [0, 0b1010, 0b1010, 0b1010])

    def test_the_least_halves_below_and_above_0(self):
        self.assertEqual(last_answer(read([0x8001, 0x0001], half(1))), [0, 0b1011])

    def test_just_at_twice_the_unit_and_just_below(self):
        row = [0x4000, 0xC000, 0x3FFF, 0xBFFF, 0x4001, 0xC001]
        self.assertEqual(last_answer(read(row, half(1))), [0, 0b0100, 0b1110, 0b0100])

    def test_the_least_unit(self):
        row = [0x0001, 0x8001, 0x0002, 0x8002, 0x0000, 0x8000, 0x0003, 0x8003]
        self.assertEqual(last_answer(read(row, 0x0001)), [0, 0b1110, 0b0100, 0b1010, 0b0100])

    def test_a_unit_below_the_least_normal_half(self):
        row = [0x07FD, 0x07FE, 0x87FD, 0x87FE]
        self.assertEqual(last_answer(read(row, 0x03FF)), [0, 0b0010, 0b0111])

    def test_twice_the_unit_infinite_is_above_all(self):
        for unit in (0x7800, 0x7801, 0x7BFF):
            self.assertEqual(last_answer(read([0x7BFF, 0xFBFF, 0, 0x8000], unit)), [0, 0b1110, 0b1010])

    def test_twice_the_unit_just_finite(self):
        self.assertEqual(last_answer(read([0x7BFF, 0xFBFF, 0x7BFE, 0xFBFE], 0x77FF)), [0, 0b0100, 0b1110])


class Write(unittest.TestCase):
    def test_each_of_the_sixteen(self):
        parts = (3, -3, 1, -1)
        signal = [part for bits in ALL_SYMBOLS for part in halves(parts[bits % 4], parts[bits // 4])]
        self.assertEqual(last_answer(write(ALL_SYMBOLS, half(1))), [0] + signal)

    def test_the_least_unit(self):
        self.assertEqual(last_answer(write([0b0110, 0b1101], 0x0001)), [0, 0x0001, 0x8003, 0x8003, 0x8001])

    def test_three_times_the_unit_is_rounded(self):
        # 3 (1 + 2^-10) is 3 + 2^-9 + 2^-10, of two as near 3 + 2^-8; 3 (1 + 3 * 2^-10) is 3 + 4.5 * 2^-9.
        self.assertEqual(last_answer(write([0b0001], 0x3C01)), [0, 0xC202, 0x4202])
        self.assertEqual(last_answer(write([0b0100], 0x3C03)), [0, 0x4204, 0xC204])

    def test_three_times_the_unit_infinite(self):
        self.assertEqual(last_answer(write([0b0001, 0b1011], 0x7BFF)), [0, 0xFC00, INF, 0xFBFF, 0x7BFF])
        # 3 times 21824 is 65472, a half; 3 times 21840 is 65520, the first that is too great.
        self.assertEqual(last_answer(write([0b0100], 0x7554)), [0, 0x7BFE, 0xFBFE])
        self.assertEqual(last_answer(write([0b0100], 0x7555)), [0, INF, 0xFC00])

    def test_1_and_256_numbers(self):
        self.assertEqual(last_answer(write([15], half(2))), [0] + halves(-2, -2))
        self.assertEqual(last_answer(write([10] * 256, half(2))), [0] + halves(2, 2) * 256)


class ReadGivesBackWhatWasWritten(unittest.TestCase):
    def check(self, unit):
        written = last_answer(write(ALL_SYMBOLS, unit))[1:]
        self.assertEqual(last_answer(read(written, unit)), [0] + ALL_SYMBOLS, unit)

    def test_units_of_all_sizes(self):
        for unit in list(range(1, 0x7554, 97)) + [0x0001, 0x0002, 0x0003, 0x03FF, 0x0400, 0x0401, 0x7554]:
            self.check(unit)

    def test_where_three_times_the_unit_is_infinite_the_near_ones_alone(self):
        near = [bits for bits in ALL_SYMBOLS if bits & 0b1010 == 0b1010]
        for unit in (0x7555, 0x7800, 0x7BFF):
            written = last_answer(write(near, unit))[1:]
            self.assertEqual(last_answer(read(written, unit)), [0] + near)
            far = last_answer(write([0], unit))
            self.assertEqual(each_answer(write([0], unit), read(far[1:], unit)), [[0, INF, INF], [-3]])


class AgainstTheModel(unittest.TestCase):
    def test_read(self):
        for seed in range(40):
            numbers = Numbers(seed)
            unit = numbers.half_between(0x0001, 0x7BFF) & ~MINUS
            near = numbers.row_between(40, max(0, unit - 0x200), min(0x7BFF, unit + 0x800))
            for row in (near, numbers.rows_of_all_sizes(2 + 2 * numbers.below(60))):
                self.assertEqual(last_answer(read(row, unit)), [0] + model_read(row, unit), (row, unit))

    def test_write(self):
        for unit in list(range(1, 0x7C00, 61)) + list(range(0x7540, 0x7560)) + list(range(0x77F8, 0x7808)):
            self.assertEqual(last_answer(write(ALL_SYMBOLS, unit)), [0] + model_write(ALL_SYMBOLS, unit), unit)

    def test_256_numbers(self):
        numbers = Numbers(3)
        row = numbers.row_between(512, 0x3000, 0x4400)
        self.assertEqual(last_answer(read(row, 0x3800)), [0] + model_read(row, 0x3800))
        symbols = [numbers.below(16) for _ in range(256)]
        self.assertEqual(last_answer(write(symbols, 0x3555)), [0] + model_write(symbols, 0x3555))


if __name__ == "__main__":
    unittest.main()
