"""Point 11: level."""

import unittest

from tests.helper import Numbers, each_answer, half, halves, last_answer, level, model_level


class Level(unittest.TestCase):
    def test_ordinary_halves(self):
        self.assertEqual(last_answer(level(halves(5, -1, 0.5, 3))), [26] + halves(1.25, -0.25, 0.125, 0.75))
        self.assertEqual(last_answer(level(halves(0.25, 0.125))), [22] + halves(1, 0.5))

    def test_from_1_on_below_2_all_stay(self):
        row = [0x3C00, 0x3BFF, 0x8001, 0x0000]
        self.assertEqual(last_answer(level(row)), [24] + row)
        self.assertEqual(last_answer(level([0x0001, 0x3FFF])), [24, 0x0001, 0x3FFF])

    def test_just_at_a_power_of_2_and_just_below_it(self):
        for e in range(-14, 16):
            self.assertEqual(last_answer(level([half(2.0 ** e), 0])), [e + 24, 0x3C00, 0])
            self.assertEqual(last_answer(level([half(2.0 ** e) + 0x03FF, 0])), [e + 24, 0x3FFF, 0])

    def test_each_power_of_2_below_the_least_normal_half(self):
        for e in range(-24, -14):
            self.assertEqual(last_answer(level([1 << (e + 24), 0])), [e + 24, 0x3C00, 0])

    def test_the_least_half(self):
        self.assertEqual(last_answer(level([0x0001, 0x0000])), [0, 0x3C00, 0x0000])
        self.assertEqual(last_answer(level([0x8001, 0x8000])), [0, 0xBC00, 0x8000])

    def test_the_greatest_half_below_the_least_normal_one(self):
        self.assertEqual(last_answer(level([0x03FF, 0x0001])), [9, 0x3FFE, 0x1800])
        self.assertEqual(last_answer(level([0x0400, 0x0001])), [10, 0x3C00, 0x1400])

    def test_the_greatest_finite_half(self):
        self.assertEqual(last_answer(level([0x7BFF, 0x3C00])), [39, 0x3FFF, 0x0200])

    def test_halves_that_become_0_keep_their_sign(self):
        row = [0x7800, 0x0001, 0x8001, 0x8000, 0x0000, 0x1400, 0x9400, 0x8400]
        self.assertEqual(last_answer(level(row)), [39, 0x3C00, 0x0000, 0x8000, 0x8000, 0x0000, 0x0000, 0x8000, 0x8000])

    def test_halves_that_are_rounded(self):
        # Times 2^-15, in counts of 2^-24: 0.75, 1.5, 2.5, and 513.5 and 514.5.
        row = [0x7800, 0x1600, 0x1A00, 0x9D00, 0x3C03, 0x3C05]
        self.assertEqual(last_answer(level(row)), [39, 0x3C00, 0x0001, 0x0002, 0x8002, 0x0202, 0x0202])

    def test_rounding_may_carry_to_the_least_normal_half(self):
        self.assertEqual(last_answer(level([0x7800, 0x3FFF])), [39, 0x3C00, 0x0400])

    def test_the_greatest_counts_without_its_sign(self):
        self.assertEqual(last_answer(level(halves(-4, 1))), [26] + halves(-1, 0.25))
        self.assertEqual(last_answer(level(halves(1, 1.5, 1, -8))), [27] + halves(0.125, 0.1875, 0.125, -1))

    def test_the_greatest_may_be_anywhere(self):
        for place in (0, 1, 255, 510, 511):
            row = halves(*[1] * 512)
            row[place] = half(16)
            found = last_answer(level(row))
            self.assertEqual(found[0], 28)
            self.assertEqual(found[1:], [half(1) if k == place else half(0.0625) for k in range(512)])

    def test_all_0_is_refused(self):
        for row in ([0, 0], [0x8000, 0x8000], [0, 0x8000], [0x8000] * 512, [0x0000] * 512):
            self.assertEqual(last_answer(level(row)), [-5])

    def test_one_that_is_not_0_is_enough(self):
        self.assertEqual(last_answer(level([0x8000] * 511 + [0x8001])), [0] + [0x8000] * 511 + [0xBC00])

    def test_what_is_levelled_stays_when_levelled_again(self):
        row = Numbers(4).row_between(40, 0x3000, 0x4400)
        once = last_answer(level(row))
        self.assertEqual(each_answer(level(once[1:]))[0], [24] + once[1:])


class AgainstTheModel(unittest.TestCase):
    def check(self, row):
        self.assertEqual(last_answer(level(row)), model_level(row), row)

    def test_ordinary_numbers(self):
        for seed in range(20):
            self.check(Numbers(seed).row_between(2 + 4 * seed, 0x2C00, 0x4400))

    def test_tiny_numbers(self):
        for most in (0x0001, 0x0003, 0x0010, 0x03FF, 0x0400, 0x0800):
            for seed in range(5):
                self.check(Numbers(seed).row_between(10, 0x0000, most))

    def test_numbers_of_all_sizes(self):
        for seed in range(40):
            self.check(Numbers(seed).rows_of_all_sizes(30))

    def test_great_ones_with_all_others(self):
        for seed in range(20):
            self.check([0x7BFF, 0xFBFF] + Numbers(seed).row_between(60, 0x0000, 0x4400))


if __name__ == "__main__":
    unittest.main()
