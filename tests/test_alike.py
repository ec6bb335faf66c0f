"""Point 8: alike, the sums of sixteen."""

import unittest

from tests.helper import (
    BEGIN, INF, NAN, TOLD, Numbers, alike, each_answer, half, halves, last_answer, learn, model_alike, phase, rate,
    taps, turn,
)


def at_places(numbers, count):
    """Complex numbers, all 0 but the real parts that are told by their places."""
    row = [0] * (2 * count)
    for place, number in numbers.items():
        row[2 * place] = half(number)
    return row


def summed(numbers, count=16):
    return last_answer(alike(at_places(numbers, count), halves(*[1, 0] * count)))


class Alike(unittest.TestCase):
    def test_one_number(self):
        self.assertEqual(last_answer(alike(halves(1, 2), halves(3, 4))), [0] + halves(11, 2))

    def test_fewer_than_sixteen(self):
        found = last_answer(alike(halves(1, 2, 0, 1, -1, 0), halves(3, 4, 2, 0, 0, 5)))
        self.assertEqual(found, [0] + halves(11, 2 + 2 + 5))

    def test_ones_count(self):
        for count in (1, 15, 16, 17, 31, 32, 33, 255, 256):
            ones = halves(*[1, 0] * count)
            self.assertEqual(last_answer(alike(ones, ones)), [0] + halves(count, 0))

    def test_a_signal_is_alike_with_itself_in_the_real_part_alone(self):
        signal = halves(*[3, 4] * 20)
        self.assertEqual(last_answer(alike(signal, signal)), [0] + halves(500, 0))

    def test_the_opposite_is_of_the_second_one(self):
        self.assertEqual(last_answer(alike(halves(0, 1), halves(1, 0))), [0] + halves(0, 1))
        self.assertEqual(last_answer(alike(halves(1, 0), halves(0, 1))), [0] + halves(0, -1))

    def test_the_seventeenth_goes_to_the_first_sum(self):
        self.assertEqual(summed({0: 2048, 16: 1, 8: 0}, 17), [0] + halves(2048, 0))
        self.assertEqual(summed({0: 2048, 8: 1, 24: 1}, 32), [0] + halves(2050, 0))
        self.assertEqual(summed({0: 2048, 16: 1, 32: 1}, 33), [0] + halves(2048, 0))

    def test_in_a_sum_the_order_is_the_row_s(self):
        self.assertEqual(summed({3: 1, 19: 1, 35: 2048}, 48), [0] + halves(2050, 0))
        self.assertEqual(summed({3: 2048, 19: 1, 35: 1}, 48), [0] + halves(2048, 0))

    def test_sums_meet_eight_apart_then_four_then_two_then_one(self):
        self.assertEqual(summed({0: 2048, 4: 1, 12: 1}), [0] + halves(2050, 0))
        self.assertEqual(summed({0: 2048, 2: 1, 6: 1}), [0] + halves(2050, 0))
        self.assertEqual(summed({0: 2048, 1: 1, 3: 1}), [0] + halves(2050, 0))
        self.assertEqual(summed({0: 2048, 8: 1, 4: 1}), [0] + halves(2048, 0))
        self.assertEqual(summed({0: 2048, 4: 1, 2: 1}), [0] + halves(2048, 0))
        self.assertEqual(summed({0: 2048, 2: 1, 1: 1}), [0] + halves(2048, 0))

    def test_a_product_is_not_rounded_by_itself(self):
        # In sum 0: -1, then (1 + 2^-10)(1 - 2^-11), which would be 1 by itself.
        a = at_places({0: -1}, 17)
        a[32] = 0x3C01
        b = halves(*[1, 0] * 17)
        b[32] = 0x3BFF
        self.assertEqual(last_answer(alike(a, b)), [0, 0x0FFE, 0])

    def test_the_first_step_is_rounded_ahead_of_the_second(self):
        self.assertEqual(last_answer(alike([0x3C00, 0x3C01], [0x3C01, 0x3C02]))[2], 0x0000)
        self.assertNotEqual(last_answer(alike([0x3C01, 0x3C02], [0x3C00, 0x3C01]))[2], 0x0000)

    def test_the_sums_are_plus_0_at_first(self):
        self.assertEqual(last_answer(alike([0x8000, 0x8000], halves(1, 0))), [0, 0, 0])

    def test_infinite_and_no_number(self):
        self.assertEqual(last_answer(alike([0x7BFF, 0], halves(2, 0))), [0, INF, 0])
        self.assertEqual(last_answer(alike([0xFBFF, 0], halves(2, 0))), [0, 0xFC00, 0])
        self.assertEqual(last_answer(alike([0x7BFF, 0, 0xFBFF, 0], halves(2, 0, 2, 0))), [0, NAN, 0])

    def test_nothing_that_is_kept_changes(self):
        start = (BEGIN, taps([0x3C00] * 32), rate(0x3800), phase(halves(1, 2), halves(3, 4)),
                 learn(halves(1, 2), halves(3, 4)), turn(halves(1, 1)))
        before = last_answer(*start, TOLD)
        self.assertEqual(last_answer(*start, alike(halves(1, 2), halves(3, 4)), TOLD), before)

    def test_it_may_stand_where_no_begin_does(self):
        call = alike(halves(1, 2), halves(3, 4))
        self.assertEqual(each_answer(call, BEGIN, call), [[0] + halves(11, 2), [0], [0] + halves(11, 2)])


class AgainstTheModel(unittest.TestCase):
    def check(self, a, b):
        self.assertEqual(last_answer(alike(a, b)), [0] + model_alike(a, b), (a, b))

    def test_ordinary_numbers_of_every_length_around_sixteen(self):
        for count in range(1, 50):
            numbers = Numbers(count)
            self.check(numbers.row_between(2 * count, 0x2C00, 0x4400), numbers.row_between(2 * count, 0x2C00, 0x4400))

    def test_tiny_numbers(self):
        for seed in range(10):
            numbers = Numbers(seed)
            self.check(numbers.row_between(70, 0x0000, 0x1000), numbers.row_between(70, 0x0000, 0x2C00))

    def test_numbers_of_all_sizes(self):
        for seed in range(40):
            numbers = Numbers(seed)
            count = 2 + 2 * numbers.below(40)
            self.check(numbers.rows_of_all_sizes(count), numbers.rows_of_all_sizes(count))

    def test_256_numbers(self):
        numbers = Numbers(41)
        self.check(numbers.row_between(512, 0x2C00, 0x4400), numbers.row_between(512, 0x2C00, 0x4400))


if __name__ == "__main__":
    unittest.main()
