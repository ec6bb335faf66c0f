"""What is refused, in which order, and that a refusal changes nothing."""

import unittest

from tests.helper import (
    BAD_COUNTS, BEGIN, LARGE, NOT_FINITE, SMALL, TOLD, alike, each_answer, halves, last_answer, learn, phase, rate, row,
    run_filter, taps, transform, turn,
)

BAD_WAYS = (-1, 2, 3, 256, SMALL, LARGE)
SET_UP = (
    BEGIN, taps(halves(*range(32))), rate(0x3400), phase(halves(0, 1), halves(0, -1)),
    run_filter(halves(*range(40))), learn(halves(0.5, 1), halves(3, 4)), turn(halves(1, 2)),
)


def with_one(numbers, place, number):
    changed = list(numbers)
    changed[place] = number
    return changed


class Refusals(unittest.TestCase):
    def check(self, call, refusal):
        """It is refused, with its number alone, and all is as without it, told and done."""
        behind = (TOLD, run_filter(halves(1, 2)), learn(halves(1, 2), halves(3, 4)), turn(halves(1, 2)), TOLD)
        found = each_answer(*SET_UP, call, *behind)
        self.assertEqual(found[len(SET_UP)], [refusal], call)
        self.assertEqual(found[len(SET_UP) + 1:], each_answer(*SET_UP, *behind)[len(SET_UP):], call)

    def check_finite(self, make, length):
        for bits in NOT_FINITE:
            for place in (0, 1, length // 2, length - 1):
                self.check(make(with_one([0x3C00] * length, place, bits)), -3)


class Ranges(Refusals):
    def test_filter(self):
        for count in BAD_COUNTS:
            self.check([4, count, 0], -2)

    def test_learn(self):
        for count in BAD_COUNTS:
            self.check([5, count, 0, 0], -2)

    def test_turn(self):
        for count in BAD_COUNTS:
            self.check([6, count, 0], -2)

    def test_transform(self):
        for way in BAD_WAYS:
            self.check(transform(way, halves(*range(32))), -2)

    def test_alike(self):
        for count in BAD_COUNTS:
            self.check([9, count, 0, 0], -2)

    def test_ahead_of_begin(self):
        self.assertEqual(each_answer([9, 0, 0, 0], transform(2, [])), [[-2], [-2]])

    def test_1_and_256_are_in_range(self):
        for count in (1, 256):
            signal = halves(1, 0) * count
            found = each_answer(BEGIN, run_filter(signal), learn(signal, signal), turn(signal), alike(signal, signal))
            self.assertEqual([answer[0] for answer in found], [0] * 5)
            self.assertEqual([len(answer) for answer in found], [1] + [1 + 2 * count] * 3 + [3])


class HandedOver(Refusals):
    def test_taps(self):
        self.check_finite(taps, 32)

    def test_rate(self):
        for bits in NOT_FINITE:
            self.check(rate(bits), -3)

    def test_phase(self):
        for bits in NOT_FINITE:
            self.check(phase([bits, 0], [0x3C00, 0]), -3)
            self.check(phase([0, bits], [0x3C00, 0]), -3)

    def test_step(self):
        for bits in NOT_FINITE:
            self.check(phase([0x3C00, 0], [bits, 0]), -3)
            self.check(phase([0x3C00, 0], [0, bits]), -3)

    def test_filter(self):
        self.check_finite(run_filter, 40)

    def test_learn(self):
        self.check_finite(lambda numbers: learn(numbers, [0x3C00] * 40), 40)

    def test_learn_wanted(self):
        self.check_finite(lambda numbers: learn([0x3C00] * 40, numbers), 40)

    def test_turn(self):
        self.check_finite(turn, 40)

    def test_transform(self):
        for way in (0, 1):
            self.check_finite(lambda numbers: transform(way, numbers), 32)

    def test_alike(self):
        self.check_finite(lambda numbers: alike(numbers, [0x3C00] * 40), 40)
        self.check_finite(lambda numbers: alike([0x3C00] * 40, numbers), 40)

    def test_256_numbers_of_which_the_last_is_not_finite(self):
        self.check(run_filter([0x3C00] * 511 + [0x7C00]), -3)

    def test_the_greatest_and_the_least_finite_halves_are_taken(self):
        found = each_answer(BEGIN, taps([0x7BFF, 0xFBFF] * 16), rate(0xFBFF), phase([0x7BFF, 0x8000], [0x8001, 0x0001]),
                            turn([0x7BFF, 0xFBFF]), alike([0x8000, 0x0000], [0x03FF, 0x83FF]))
        self.assertEqual([answer[0] for answer in found], [0] * 6)


class TheirOrder(Refusals):
    def test_the_range_comes_ahead_of_what_is_handed_over(self):
        for way in BAD_WAYS:
            for bits in NOT_FINITE:
                self.check([8, way] + row([bits] * 32), -2)

    def test_refusals_one_behind_another(self):
        found = each_answer(BEGIN, [4, 0, 0], rate(0x7C00), transform(2, [0x7C00]), transform(1, [0x7C00]), TOLD)
        self.assertEqual(found[:5], [[0], [-2], [-3], [-2], [-3]])
        self.assertEqual(found[5], last_answer(BEGIN, TOLD))


if __name__ == "__main__":
    unittest.main()
