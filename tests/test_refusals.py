"""What is refused, in which order, and that a refusal changes nothing."""

import unittest

from tests.helper import (
    BAD_COUNTS, BAD_SHIFTS, BEGIN, LARGE, NOT_FINITE, SMALL, TOLD, alike, each_answer, find, halves, last_answer, learn,
    level, make_half, make_whole, phase, power, rate, read, row, run_filter, size, taps, transform, turn, twist, write,
)

BAD_WAYS = (-1, 2, 3, 256, SMALL, LARGE)
BAD_TWISTS = (-1, 4, 5, 256, SMALL, LARGE)
NO_UNITS = (0x0000, 0x8000, 0x8001, 0xBC00, 0xFBFF) + NOT_FINITE
SET_UP = (
    BEGIN, taps(halves(*range(32))), rate(0x3400), phase(halves(0, 1), halves(0, -1)),
    run_filter(halves(*range(40))), learn(halves(0.5, 1), halves(3, 4)), turn(halves(1, 2)),
)


def with_one(numbers, place, number):
    changed = list(numbers)
    changed[place] = number
    return changed


class Refusals(unittest.TestCase):
    def check(self, call, refusal):
        """It is refused, with its number alone, and all is as without it, told and done."""
        behind = (TOLD, run_filter(halves(1, 2)), learn(halves(1, 2), halves(3, 4)), turn(halves(1, 2)), TOLD)
        found = each_answer(*SET_UP, call, *behind)
        self.assertEqual(found[len(SET_UP)], [refusal], call)
        self.assertEqual(found[len(SET_UP) + 1:], each_answer(*SET_UP, *behind)[len(SET_UP):], call)

    def check_finite(self, make, length):
        for bits in NOT_FINITE:
            for place in (0, 1, length // 2, length - 1):
                self.check(make(with_one([0x3C00] * length, place, bits)), -3)


class Ranges(Refusals):
    def test_filter(self):
        for count in BAD_COUNTS:
            self.check([4, count, 0], -2)

    def test_learn(self):
        for count in BAD_COUNTS:
            self.check([5, count, 0, 0], -2)

    def test_turn(self):
        for count in BAD_COUNTS:
            self.check([6, count, 0], -2)

    def test_transform(self):
        for way in BAD_WAYS:
            self.check(transform(way, halves(*range(32))), -2)

    def test_alike(self):
        for count in BAD_COUNTS:
            self.check([9, count, 0, 0], -2)

    def test_power_level_size(self):
        for count in BAD_COUNTS:
            for number in (10, 12, 13):
                self.check([number, count, 0], -2)

    def test_find(self):
        for count in BAD_COUNTS:
            for code in (1, 0, 256, count):
                self.check([11, count, code, 0, 0], -2)

    def test_find_code(self):
        for count in (1, 5, 256):
            for code in (0, count + 1, 257, -1, -count, SMALL, LARGE):
                self.check([11, count, code] + row([0x3C00] * (2 * count)) + [0], -2)

    def test_twist(self):
        for count in BAD_COUNTS:
            for way in (0, 3, 4):
                self.check([14, count, way, 0, 0, 0], -2)

    def test_twist_way(self):
        for way in BAD_TWISTS:
            self.check(twist(way, halves(1, 2), halves(3, 4), halves(5, 6)), -2)

    def test_read(self):
        for count in BAD_COUNTS:
            self.check([15, count, 0, 1, 0x3C00], -2)

    def test_write(self):
        self.check(write([], 0x3C00), -2)

    def test_whole_and_half(self):
        for count in BAD_COUNTS:
            for shift in (0, 15, 16):
                self.check([17, count, shift, 0], -2)
                self.check([18, count, shift, 0], -2)

    def test_whole_and_half_shift(self):
        for shift in BAD_SHIFTS:
            self.check(make_whole(shift, halves(1, 2)), -2)
            self.check(make_half(shift, [1, 2]), -2)

    def test_ahead_of_begin(self):
        self.assertEqual(each_answer([9, 0, 0, 0], transform(2, [])), [[-2], [-2]])
        calls = ([10, 0, 0], [11, 0, 0, 0, 0], [12, 0, 0], [13, 0, 0], [14, 0, 0, 0, 0, 0], [15, 0, 0, 1, 1],
                 [16, 0, 1, 1], [17, 0, 0, 0], [18, 0, 0, 0])
        self.assertEqual(each_answer(*calls), [[-2]] * 9)

    def test_1_and_256_are_in_range(self):
        for count in (1, 256):
            signal = halves(1, 0) * count
            found = each_answer(BEGIN, run_filter(signal), learn(signal, signal), turn(signal), alike(signal, signal))
            self.assertEqual([answer[0] for answer in found], [0] * 5)
            self.assertEqual([len(answer) for answer in found], [1] + [1 + 2 * count] * 3 + [3])
            found = each_answer(power(signal), find(signal, signal), level(signal), size(signal),
                                twist(3, signal, signal, signal), read(signal, 0x3C00), write([1] * count, 0x3C00),
                                make_whole(15, signal), make_half(15, signal))
            self.assertEqual([answer[0] for answer in found], [0, 0, 24] + [0] * 6)
            self.assertEqual([len(answer) - 1 for answer in found],
                             [1, 1, 2 * count, count, 2 * count, count] + [2 * count] * 3)


class HandedOver(Refusals):
    def test_taps(self):
        self.check_finite(taps, 32)

    def test_rate(self):
        for bits in NOT_FINITE:
            self.check(rate(bits), -3)

    def test_phase(self):
        for bits in NOT_FINITE:
            self.check(phase([bits, 0], [0x3C00, 0]), -3)
            self.check(phase([0, bits], [0x3C00, 0]), -3)

    def test_step(self):
        for bits in NOT_FINITE:
            self.check(phase([0x3C00, 0], [bits, 0]), -3)
            self.check(phase([0x3C00, 0], [0, bits]), -3)

    def test_filter(self):
        self.check_finite(run_filter, 40)

    def test_learn(self):
        self.check_finite(lambda numbers: learn(numbers, [0x3C00] * 40), 40)

    def test_learn_wanted(self):
        self.check_finite(lambda numbers: learn([0x3C00] * 40, numbers), 40)

    def test_turn(self):
        self.check_finite(turn, 40)

    def test_transform(self):
        for way in (0, 1):
            self.check_finite(lambda numbers: transform(way, numbers), 32)

    def test_alike(self):
        self.check_finite(lambda numbers: alike(numbers, [0x3C00] * 40), 40)
        self.check_finite(lambda numbers: alike([0x3C00] * 40, numbers), 40)

    def test_power_level_size(self):
        for call in (power, level, size):
            self.check_finite(call, 40)

    def test_find(self):
        self.check_finite(lambda numbers: find(numbers, [0x3C00] * 10), 40)
        self.check_finite(lambda numbers: find([0x3C00] * 40, numbers), 10)
        self.check_finite(lambda numbers: find([0x3C00] * 40, numbers), 40)

    def test_twist(self):
        ones = [0x3C00] * 40
        for way in (0, 3):
            self.check_finite(lambda numbers: twist(way, numbers, ones, ones), 40)
            self.check_finite(lambda numbers: twist(way, ones, numbers, ones), 40)
            self.check_finite(lambda numbers: twist(way, ones, ones, numbers), 40)

    def test_read(self):
        self.check_finite(lambda numbers: read(numbers, 0x3C00), 40)
        # Where twice the unit is infinite, too.
        self.check(read([0x7C00, 0], 0x7BFF), -3)

    def test_a_unit_that_is_not_above_0_or_not_finite(self):
        for unit in NO_UNITS:
            self.check(read(halves(1, 2), unit), -3)
            self.check(write([0, 15], unit), -3)

    def test_write_bits(self):
        for bits in (16, 17, 31, 32, 128, 240, 255):
            for place in (0, 1, 19, 39):
                self.check(write(with_one([15] * 40, place, bits), 0x3C00), -3)
        self.check(write([15] * 255 + [16], 0x3C00), -3)

    def test_whole(self):
        for shift in (0, 15):
            self.check_finite(lambda numbers: make_whole(shift, numbers), 40)

    def test_half_takes_all_numbers(self):
        for bits in NOT_FINITE:
            self.assertEqual(last_answer(make_half(0, [bits, bits]))[0], 0)

    def test_256_numbers_of_which_the_last_is_not_finite(self):
        self.check(run_filter([0x3C00] * 511 + [0x7C00]), -3)

    def test_the_greatest_and_the_least_finite_halves_are_taken(self):
        found = each_answer(BEGIN, taps([0x7BFF, 0xFBFF] * 16), rate(0xFBFF), phase([0x7BFF, 0x8000], [0x8001, 0x0001]),
                            turn([0x7BFF, 0xFBFF]), alike([0x8000, 0x0000], [0x03FF, 0x83FF]))
        self.assertEqual([answer[0] for answer in found], [0] * 6)
        row_of_edges = [0x7BFF, 0xFBFF, 0x8000, 0x0001]
        found = each_answer(power(row_of_edges), size(row_of_edges), level(row_of_edges),
                            find(row_of_edges, [0xFBFF, 0x8001]), twist(0, *[row_of_edges] * 3),
                            make_whole(0, row_of_edges), read(row_of_edges, 0x0001), read(row_of_edges, 0x7BFF),
                            write([0, 15], 0x0001), write([0, 15], 0x7BFF))
        self.assertEqual([answer[0] for answer in found], [0, 0, 39] + [0] * 7)


class Level(Refusals):
    def test_all_halves_are_0(self):
        for numbers in ([0, 0], [0x8000, 0], [0x8000, 0x8000], [0] * 512, [0x8000] * 512):
            self.check(level(numbers), -5)


class TheirOrder(Refusals):
    def test_the_range_comes_ahead_of_what_is_handed_over(self):
        for way in BAD_WAYS:
            for bits in NOT_FINITE:
                self.check([8, way] + row([bits] * 32), -2)

        for way in BAD_TWISTS:
            self.check(twist(way, [0x7C00, 0], [0x7C00, 0], [0x7C00, 0]), -2)
        for shift in BAD_SHIFTS:
            self.check(make_whole(shift, [0x7C00, 0x7E00]), -2)
        for code in (0, 3, -1, SMALL, LARGE):
            self.check([11, 2, code] + row([0x7C00] * 4) + [0], -2)

    def test_the_range_comes_ahead_of_the_unit(self):
        for unit in NO_UNITS:
            for count in BAD_COUNTS:
                self.check([15, count, 0, 1, unit], -2)
            self.check(write([], unit), -2)

    def test_what_is_handed_over_comes_ahead_of_all_being_0(self):
        for bits in NOT_FINITE:
            self.check(level([0, bits]), -3)
            self.check(level([0x8000] * 511 + [bits]), -3)

    def test_the_range_comes_ahead_of_all_being_0(self):
        for count in BAD_COUNTS:
            self.check([12, count, 0], -2)

    def test_bits_and_unit_both_wrong(self):
        self.check(write([16], 0x0000), -3)
        self.check(read([0x7C00, 0], 0x8000), -3)

    def test_refusals_one_behind_another(self):
        found = each_answer(BEGIN, [4, 0, 0], rate(0x7C00), transform(2, [0x7C00]), transform(1, [0x7C00]), TOLD)
        self.assertEqual(found[:5], [[0], [-2], [-3], [-2], [-3]])
        self.assertEqual(found[5], last_answer(BEGIN, TOLD))


if __name__ == "__main__":
    unittest.main()
