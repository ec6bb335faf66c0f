"""Points 16 and 17: whole and half."""

import unittest

from tests.helper import Numbers, half, halves, last_answer, make_half, make_whole, model_half, model_whole

SHIFTS = range(16)


def wholes(shift, *numbers):
    """whole's answer, with those below 0 as such."""
    found = last_answer(make_whole(shift, halves(*numbers)))
    return [found[0]] + [number - 65536 if number > 32767 else number for number in found[1:]]


class Whole(unittest.TestCase):
    def test_whole_numbers_stay(self):
        self.assertEqual(last_answer(make_whole(0, halves(1, 0, 2048, 100))), [0, 1, 0, 2048, 100])

    def test_below_0_they_stand_modulo_65536(self):
        self.assertEqual(last_answer(make_whole(0, halves(-1, -2, -2048, -32768))), [0, 65535, 65534, 63488, 32768])

    def test_to_the_nearest(self):
        self.assertEqual(wholes(0, 0.75, 0.25, 1.25, 1.75, 7.125, 7.875), [0, 1, 0, 1, 2, 7, 8])
        self.assertEqual(wholes(0, -0.75, -0.25, -1.25, -1.75, -7.125, -7.875), [0, -1, 0, -1, -2, -7, -8])

    def test_of_two_as_near_the_even_one(self):
        self.assertEqual(wholes(0, 0.5, 1.5, 2.5, 3.5, 1022.5, 1023.5), [0, 0, 2, 2, 4, 1022, 1024])
        self.assertEqual(wholes(0, -0.5, -1.5, -2.5, -3.5, -1022.5, -1023.5), [0, 0, -2, -2, -4, -1022, -1024])

    def test_just_beside_the_middle(self):
        row = [0x3801, 0x37FF, 0xB801, 0xB7FF]
        self.assertEqual(last_answer(make_whole(0, row)), [0, 1, 0, 65535, 0])

    def test_0(self):
        self.assertEqual(last_answer(make_whole(0, [0x0000, 0x8000])), [0, 0, 0])
        self.assertEqual(last_answer(make_whole(15, [0x0000, 0x8000])), [0, 0, 0])
        self.assertEqual(last_answer(make_whole(15, [0x0001, 0x8001])), [0, 0, 0])

    def test_times_2_to_the_shift(self):
        for shift in SHIFTS:
            self.assertEqual(wholes(shift, 0.5, -0.75), [0, *(round(part * 2 ** shift) for part in (0.5, -0.75))])

    def test_rounded_behind_the_shift(self):
        self.assertEqual(wholes(1, 0.5, 0.25, 0.75, -0.25), [0, 1, 0, 2, 0])
        self.assertEqual(wholes(15, 2.0 ** -16, 3 * 2.0 ** -16, 5 * 2.0 ** -16, -3 * 2.0 ** -16), [0, 0, 2, 2, -2])
        self.assertEqual(last_answer(make_whole(15, [0x03FF, 0x83FF])), [0, 2, 65534])

    def test_beyond_32767(self):
        self.assertEqual(wholes(0, 32752, 32768, 65504, 40000), [0, 32752, 32767, 32767, 32767])
        self.assertEqual(wholes(15, 1, 2, 65504, 0.99951171875), [0, 32767, 32767, 32767, 32752])

    def test_beyond_minus_32768(self):
        self.assertEqual(wholes(0, -32752, -32768, -32800, -65504), [0, -32752, -32768, -32768, -32768])
        self.assertEqual(wholes(15, -1, -2, -65504, -0.99951171875), [0, -32768, -32768, -32768, -32752])
        self.assertEqual(last_answer(make_whole(15, [0xBC00, 0xFBFF])), [0, 32768, 32768])


class Half(unittest.TestCase):
    def test_small_numbers(self):
        self.assertEqual(last_answer(make_half(0, [0, 1, 2, 2048])), [0] + halves(0, 1, 2, 2048))

    def test_from_32768_on_they_are_below_0(self):
        self.assertEqual(last_answer(make_half(0, [32768, 65535, 65534, 33792])), [0] + halves(-32768, -1, -2, -31744))

    def test_0_has_no_minus(self):
        for shift in SHIFTS:
            self.assertEqual(last_answer(make_half(shift, [0, 0])), [0, 0, 0])

    def test_rounding(self):
        row = [2049, 2050, 2051, 32767, 4098, 4102]
        self.assertEqual(last_answer(make_half(0, row)), [0] + halves(2048, 2050, 2052, 32768, 4096, 4104))
        row = [65536 - number for number in row]
        self.assertEqual(last_answer(make_half(0, row)), [0] + halves(-2048, -2050, -2052, -32768, -4096, -4104))

    def test_divided_by_2_to_the_shift(self):
        for shift in SHIFTS:
            self.assertEqual(last_answer(make_half(shift, [1, 65533])), [0] + halves(2.0 ** -shift, -3 * 2.0 ** -shift))

    def test_shift_15(self):
        self.assertEqual(last_answer(make_half(15, [32768, 65535, 1, 32767])), [0, 0xBC00, 0x8200, 0x0200, 0x3C00])
        self.assertEqual(last_answer(make_half(15, [16384, 49152, 2049, 2051])), [0, 0x3800, 0xB800, 0x2C00, 0x2C02])

    def test_bits_that_are_of_no_finite_half_are_whole_numbers_here(self):
        row = [0x7C00, 0xFC00, 0x7E00, 0xFFFF]
        self.assertEqual(last_answer(make_half(0, row)), [0] + halves(31744, -1024, 32256, -1))


class ThereAndBack(unittest.TestCase):
    def test_whole_gives_back_what_a_half_can_hold(self):
        row = list(range(2049)) + list(range(65536 - 2048, 65536)) + [32768]
        for shift in SHIFTS:
            for k in range(0, len(row), 512):
                part = row[k:k + 512]
                made = last_answer(make_half(shift, part))[1:]
                self.assertEqual(last_answer(make_whole(shift, made)), [0] + part)


class AgainstTheModel(unittest.TestCase):
    def test_every_finite_half_made_whole(self):
        for minus in (0, 0x8000):
            for first in range(0, 0x7C00, 512):
                row = list(range(minus + first, minus + first + 512))
                shift = first // 512 % 16
                self.assertEqual(last_answer(make_whole(shift, row)), [0] + model_whole(shift, row))

    def test_halves_made_whole_with_each_shift(self):
        for shift in SHIFTS:
            numbers = Numbers(shift)
            # Around where a half times 2^shift is from 2^-2 on to beyond 2^16.
            around = numbers.row_between(200, max(0, 0x3400 - 1024 * shift), min(0x7BFF, 0x8000 - 1024 * shift))
            for row in (around, numbers.rows_of_all_sizes(100)):
                self.assertEqual(last_answer(make_whole(shift, row)), [0] + model_whole(shift, row), row)

    def test_whole_numbers_made_halves(self):
        for first in range(0, 65536, 512):
            row = list(range(first, first + 512))
            shift = (first // 512 * 7) % 16
            self.assertEqual(last_answer(make_half(shift, row)), [0] + model_half(shift, row))

    def test_whole_numbers_made_halves_with_each_shift(self):
        for shift in SHIFTS:
            numbers = Numbers(shift)
            row = [numbers.below(65536) for _ in range(100)] + [0, 1, 32767, 32768, 32769, 65535]
            self.assertEqual(last_answer(make_half(shift, row)), [0] + model_half(shift, row))


if __name__ == "__main__":
    unittest.main()
