"""Point 7: transform."""

import unittest

from tests.helper import (
    BEGIN, INF, MINUS, NAN, TOLD, TURNS, Numbers, each_answer, flat, half, halves, last_answer, learn, model_transform,
    phase, rate, taps, transform, turn,
)

# The transform of -16 - 15i, -14 - 13i, ..., 14 + 15i, way 0.
ROW_0 = [
    0xCC00, 0x0000, 0xD607, 0x5407, 0xD2D4, 0x4DA8, 0xD0FE, 0x47F0,
    0xD000, 0x0000, 0xCEAC, 0xC550, 0xCDA8, 0xC8B0, 0xCCCC, 0xCA68,
    0xCC00, 0xCC00, 0xCA68, 0xCCCC, 0xC8B0, 0xCDA8, 0xC550, 0xCEAC,
    0x0000, 0xD000, 0x47F0, 0xD0FE, 0x4DA8, 0xD2D4, 0x5407, 0xD607,
]

# The transform of -16 - 15i, -14 - 13i, ..., 14 + 15i, way 1.
ROW_1 = [
    0xCC00, 0x0000, 0x5407, 0xD607, 0x4DA8, 0xD2D4, 0x47F0, 0xD0FE,
    0x0000, 0xD000, 0xC550, 0xCEAC, 0xC8B0, 0xCDA8, 0xCA68, 0xCCCC,
    0xCC00, 0xCC00, 0xCCCC, 0xCA68, 0xCDA8, 0xC8B0, 0xCEAC, 0xC550,
    0xD000, 0x0000, 0xD0FE, 0x47F0, 0xD2D4, 0x4DA8, 0xD607, 0x5407,
]


def one_at(place, number):
    return [0] * (2 * place) + number + [0] * (30 - 2 * place)


def reals(numbers):
    return [part for number in numbers for part in (half(number), 0)]


class Transform(unittest.TestCase):
    def test_one_at_0_is_in_all_waves(self):
        for way in (0, 1):
            self.assertEqual(last_answer(transform(way, one_at(0, halves(1, 0)))), [0] + halves(*[1, 0] * 16))

    def test_ones_are_the_wave_0(self):
        for way in (0, 1):
            self.assertEqual(last_answer(transform(way, halves(*[1, 0] * 16)))[1:], halves(16, 0) + [0] * 30)

    def test_one_at_1_is_the_turns(self):
        found = last_answer(transform(0, one_at(1, halves(1, 0))))
        # 0 less 0 and 0 and -0 are +0: no part that is 0 gets a minus.
        opposite = [part ^ MINUS if part else 0 for part in flat(TURNS)]
        self.assertEqual(found, [0] + flat(TURNS) + opposite)

    def test_one_at_1_is_the_opposite_turns_the_other_way(self):
        found = last_answer(transform(1, one_at(1, halves(1, 0))))
        turns = [(real, other ^ MINUS if other else 0) for real, other in TURNS]
        opposite = [part ^ MINUS if part else 0 for part in flat(turns)]
        self.assertEqual(found, [0] + flat(turns) + opposite)

    def test_one_at_8_goes_to_and_fro(self):
        for way in (0, 1):
            found = last_answer(transform(way, one_at(8, halves(1, 0))))
            self.assertEqual(found, [0] + halves(*[1, 0, -1, 0] * 8))

    def test_one_at_4_goes_in_quarters(self):
        found = last_answer(transform(0, one_at(4, halves(1, 0))))
        self.assertEqual(found, [0] + halves(*[1, 0, 0, -1, -1, 0, 0, 1] * 4))
        found = last_answer(transform(1, one_at(4, halves(1, 0))))
        self.assertEqual(found, [0] + halves(*[1, 0, 0, 1, -1, 0, 0, -1] * 4))

    def test_a_row_told_to_the_bit(self):
        signal = halves(*range(-16, 16))
        self.assertEqual(last_answer(transform(0, signal)), [0] + ROW_0)
        self.assertEqual(last_answer(transform(1, signal)), [0] + ROW_1)

    def test_sums_and_differences_are_each_rounded(self):
        # 2048 and 1, at 0 and 8, meet first: 2048 either way, of two as near the even one; 2049 there is none.
        found = last_answer(transform(0, reals([2048] + [0] * 7 + [1] + [0] * 7)))
        self.assertEqual(found[1:5], [half(2048), 0, half(2047), 0])

    def test_the_order_in_which_numbers_meet(self):
        # 1 and 1, at 4 and 12, meet ahead of 2048 at 0.
        found = last_answer(transform(0, reals([2048, 0, 0, 0, 1, 0, 0, 0, 0, 0, 0, 0, 1, 0, 0, 0])))
        self.assertEqual(found[1], half(2050))
        found = last_answer(transform(0, reals([2048, 0, 0, 0, 1, 0, 0, 0, 1, 0, 0, 0, 0, 0, 0, 0])))
        self.assertEqual(found[1], half(2048))

    def test_a_number_by_turn_0_is_by_it_in_full(self):
        # -0 less (-1 times 0) is +0.
        found = last_answer(transform(0, [0x8000, 0] + one_at(8, [0x8000, 0xBC00])[2:]))
        self.assertEqual(found[1], 0x0000)
        found = last_answer(transform(0, [0x8000, 0] + one_at(8, [0x8000, 0x3C00])[2:]))
        self.assertEqual(found[1], 0x0000)

    def test_infinite_where_it_is_too_great(self):
        signal = one_at(0, [0x7BFF, 0])
        signal[16] = 0x7BFF
        self.assertEqual(last_answer(transform(0, signal)), [0] + [INF, 0, 0, 0] * 8)

    def test_infinite_by_turn_0_leaves_no_number(self):
        signal = one_at(4, [0x7BFF, 0])
        signal[24] = 0x7BFF
        self.assertEqual(last_answer(transform(0, signal)), [0] + [INF, NAN, 0, 0, 0xFC00, NAN, 0, 0] * 4)
        self.assertEqual(last_answer(transform(0, [0x7BFF, 0] * 16))[1:3], [NAN, NAN])

    def test_nothing_that_is_kept_changes(self):
        start = (BEGIN, taps([0x3C00] * 32), rate(0x3800), phase(halves(1, 2), halves(3, 4)),
                 learn(halves(1, 2), halves(3, 4)), turn(halves(1, 1)))
        before = last_answer(*start, TOLD)
        self.assertEqual(last_answer(*start, transform(0, halves(*range(32))), TOLD), before)

    def test_it_may_stand_where_no_begin_does(self):
        found = each_answer(transform(0, one_at(0, halves(1, 0))), BEGIN, transform(0, one_at(0, halves(1, 0))))
        self.assertEqual(found[0], found[2])


class AgainstTheModel(unittest.TestCase):
    def check(self, signal):
        for way in (0, 1):
            self.assertEqual(last_answer(transform(way, signal)), [0] + model_transform(way, signal), (way, signal))

    def test_one_anywhere(self):
        for place in range(16):
            self.check(one_at(place, halves(1, 0)))
            self.check(one_at(place, halves(0, -1)))

    def test_ordinary_numbers(self):
        for seed in range(20):
            self.check(Numbers(seed).row_between(32, 0x3000, 0x4800))

    def test_tiny_numbers(self):
        for seed in range(10):
            self.check(Numbers(seed).row_between(32, 0x0000, 0x0800))

    def test_great_numbers(self):
        for seed in range(10):
            self.check(Numbers(seed).row_between(32, 0x7000, 0x7BFF))

    def test_zeros_of_both_signs(self):
        for seed in range(20):
            self.check(Numbers(seed).row_between(32, 0x0000, 0x0000))

    def test_numbers_of_all_sizes(self):
        for seed in range(20):
            self.check(Numbers(seed).rows_of_all_sizes(32))


if __name__ == "__main__":
    unittest.main()
