"""Point 3: filter, and what is heard."""

import unittest

from tests.helper import (
    BEGIN, FRESH, INF, NAN, TOLD, Model, Numbers, each_answer, halves, last_answer, learn, pairs, rate, run_filter,
    taps, turn,
)


class Filter(unittest.TestCase):
    def test_a_new_receiver_hears_what_comes(self):
        signal = halves(1, 2, -3, 4, 0.5, -0.25)
        self.assertEqual(each_answer(BEGIN, run_filter(signal)), [[0], [0] + signal])

    def test_two_taps(self):
        calls = (BEGIN, taps(halves(1, 2, 3, -1)), run_filter(halves(1, 1, 2, 0)))
        self.assertEqual(last_answer(*calls), [0] + halves(-1, 3, 6, 6))

    def test_what_is_kept_behind_filter(self):
        set_taps = halves(1, 2, 3, -1) + [0] * 28
        found = last_answer(BEGIN, taps(set_taps), run_filter(halves(1, 1, 2, 0)), TOLD)
        self.assertEqual(found, [0] + set_taps + halves(2, 0, 1, 1) + [0] * 26 + FRESH[62:])

    def test_one_number_is_heard_at_each_tap_in_turn(self):
        numbers = halves(*range(1, 33))
        found = last_answer(BEGIN, taps(numbers), run_filter(halves(1, 0) + [0] * 34))
        self.assertEqual(found, [0] + numbers + [0] * 4)

    def test_several_calls_hear_as_one_does(self):
        numbers = Numbers(3)
        signal = numbers.row_between(80, 0x3000, 0x4400)
        start = (BEGIN, taps(numbers.row_between(32, 0x3000, 0x4400)))
        whole = last_answer(*start, run_filter(signal))
        parts = each_answer(*start, run_filter(signal[:2]), run_filter(signal[2:50]), run_filter(signal[50:]))
        self.assertEqual(parts[2][1:] + parts[3][1:] + parts[4][1:], whole[1:])

    def test_turn_lets_nothing_come(self):
        ones = taps(halves(*[1, 0] * 16))
        found = last_answer(BEGIN, ones, turn(halves(5, 6)), run_filter(halves(1, 2)))
        self.assertEqual(found, [0] + halves(1, 2))

    def test_taps_come_in_order(self):
        # 2048 + 1 + 1 is 2048 from the left, and -2048 behind it leaves 0.
        signal = halves(-2048, 0, 1, 0, 1, 0, 2048, 0)
        self.assertEqual(last_answer(BEGIN, taps(halves(*[1, 0] * 4)), run_filter(signal))[7], 0x0000)

    def test_a_tap_by_a_number_not_a_number_by_a_tap(self):
        found = last_answer(BEGIN, taps([0x3C00, 0x3C01]), run_filter([0x3C01, 0xBC02]))
        self.assertEqual(found[2], 0x0000)
        found = last_answer(BEGIN, taps([0x3C01, 0xBC02]), run_filter([0x3C00, 0x3C01]))
        self.assertNotEqual(found[2], 0x0000)

    def test_what_is_heard_begins_at_plus_0(self):
        # Tap 0 leaves -0, all the others too; only the 0 ahead of them has no minus.
        found = last_answer(BEGIN, taps([0x8000, 0x8000] * 16), run_filter([0x3C00, 0x0000]))
        self.assertEqual(found, [0, 0x0000, 0x0000])

    def test_infinite_where_it_is_too_great(self):
        start = (BEGIN, taps([0x7BFF, 0, 0x7BFF, 0]))
        self.assertEqual(last_answer(*start, run_filter(halves(2, 0, -2, 0, 0, 0))), [0, INF, 0, 0xFC00, 0, 0xFC00, 0])

    def test_a_tap_that_is_infinite_leaves_no_number_of_0(self):
        # Learning makes tap 0 infinite in its real part: 1 + 65504 * 2.
        start = (BEGIN, rate(0x3C00), learn(halves(2, 0), [0x7BFF, 0]))
        self.assertEqual(last_answer(*start, TOLD)[1:3], [INF, 0])
        self.assertEqual(last_answer(*start, run_filter(halves(1, 0, 0, 0))), [0, INF, NAN, NAN, NAN])


class AgainstTheModel(unittest.TestCase):
    def check(self, numbers, start, count):
        model = Model()
        model.taps = pairs(start)
        signal = numbers(2 * count)
        found = each_answer(BEGIN, taps(start), run_filter(signal), TOLD)
        self.assertEqual(found[2], [0] + model.filter(signal))
        self.assertEqual(found[3], [0] + model.told())

    def test_ordinary_numbers(self):
        for seed in range(6):
            numbers = Numbers(seed)
            ordinary = lambda count: numbers.row_between(count, 0x2C00, 0x4400)
            self.check(ordinary, ordinary(32), 20)

    def test_tiny_numbers(self):
        numbers = Numbers(11)
        tiny = lambda count: numbers.row_between(count, 0x0000, 0x1400)
        self.check(tiny, numbers.row_between(32, 0x0000, 0x2800), 30)

    def test_numbers_of_all_sizes(self):
        for seed in range(6):
            numbers = Numbers(seed)
            self.check(numbers.rows_of_all_sizes, numbers.rows_of_all_sizes(32), 24)

    def test_1_and_256_numbers(self):
        numbers = Numbers(12)
        ordinary = lambda count: numbers.row_between(count, 0x2C00, 0x4400)
        self.check(ordinary, ordinary(32), 1)
        self.check(ordinary, ordinary(32), 256)


if __name__ == "__main__":
    unittest.main()
