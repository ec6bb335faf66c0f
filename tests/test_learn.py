"""Point 4: learn."""

import unittest

from tests.helper import (
    BEGIN, FRESH, INF, NAN, TOLD, Model, Numbers, each_answer, halves, last_answer, learn, pairs, rate, run_filter,
    taps,
)


class Learn(unittest.TestCase):
    def test_one_number(self):
        found = each_answer(BEGIN, rate(0x3800), learn(halves(1, 1), halves(2, 0)), TOLD)
        self.assertEqual(found[2], [0] + halves(1, -1))
        expected = halves(1, -1) + [0] * 30 + halves(1, 1) + [0] * 28 + [0x3800] + FRESH[63:]
        self.assertEqual(found[3], [0] + expected)

    def test_the_taps_change_from_number_to_number(self):
        found = each_answer(BEGIN, rate(0x3800), learn(halves(1, 1, 0, 2), halves(2, 0, 0, 0)), TOLD)
        self.assertEqual(found[2], [0] + halves(1, -1, -2, -2))
        self.assertEqual(found[3][1:5], halves(-1, 1, -2, 0))
        self.assertEqual(found[3][33:37], halves(0, 2, 1, 1))

    def test_several_calls_learn_as_one_does(self):
        start = (BEGIN, rate(0x3800))
        whole = each_answer(*start, learn(halves(1, 1, 0, 2), halves(2, 0, 0, 0)), TOLD)
        parts = each_answer(*start, learn(halves(1, 1), halves(2, 0)), learn(halves(0, 2), halves(0, 0)), TOLD)
        self.assertEqual(parts[2][1:] + parts[3][1:], whole[2][1:])
        self.assertEqual(parts[4], whole[3])

    def test_what_came_in_filter_is_learned_from(self):
        found = last_answer(BEGIN, taps([]), rate(0x3C00), run_filter(halves(2, 0)), learn(halves(3, 0), halves(1, 0)),
                            TOLD)
        self.assertEqual(found[1:5], halves(3, 0, 2, 0))

    def test_what_was_learned_is_heard(self):
        calls = (BEGIN, rate(0x3800), learn(halves(1, 1), halves(2, 0)), run_filter(halves(1, 0)))
        self.assertEqual(last_answer(*calls), [0] + halves(1, -1))

    def test_all_sixteen_taps_learn(self):
        signal = halves(*[1, 0] * 16)
        found = last_answer(BEGIN, taps([]), rate(0x3C00), run_filter(signal[2:]), learn(halves(1, 0), halves(1, 0)),
                            TOLD)
        self.assertEqual(found[1:33], signal)

    def test_at_rate_0_what_is_missed_is_told_all_the_same(self):
        found = each_answer(BEGIN, learn(halves(1, 2, 3, 4), halves(5, 5, 5, 5)), TOLD)
        self.assertEqual(found[1], [0] + halves(4, 3, 2, 1))
        self.assertEqual(found[2][1:33], FRESH[:32])

    def test_a_rate_below_0(self):
        found = last_answer(BEGIN, rate(0xB800), learn(halves(1, 0), halves(3, 0)), TOLD)
        self.assertEqual(found[1:3], halves(0, 0))

    def test_the_rate_times_what_is_missed_is_rounded_by_itself(self):
        # Missed is 1 + 2^-10; the square of that is 1 + 2^-9 in brackets, just what tap 0 is below 0.
        found = each_answer(BEGIN, taps([0xBC02, 0]), rate(0x3C01), learn(halves(1, 0), [0x9400, 0]), TOLD)
        self.assertEqual(found[3], [0, 0x3C01, 0])
        self.assertEqual(found[4][1:3], [0, 0])

    def test_what_is_missed_by_the_opposite_not_the_other_way_round(self):
        start = (BEGIN, taps([]), rate(0x3C00))
        self.assertEqual(last_answer(*start, learn([0x3C01, 0x3C02], [0x3C00, 0x3C01]), TOLD)[2], 0x0000)
        self.assertNotEqual(last_answer(*start, learn([0x3C00, 0x3C01], [0x3C01, 0x3C02]), TOLD)[2], 0x0000)

    def test_taps_that_get_infinite_and_no_number(self):
        start = (BEGIN, rate(0x3C00), learn(halves(2, 0), [0x7BFF, 0]))
        self.assertEqual(last_answer(*start, TOLD)[1:5], [INF, 0, 0, 0])
        found = each_answer(*start, learn(halves(1, 0), halves(0, 0)), TOLD)
        self.assertEqual(found[3], [0, 0xFC00, NAN])
        self.assertEqual(found[4][1:5], [NAN, NAN, NAN, NAN])
        self.assertEqual(set(found[4][1:33]), {NAN})

    def test_infinite_times_rate_0_is_no_number(self):
        found = each_answer(BEGIN, learn([0xFBFF, 0], [0x7BFF, 0]), TOLD)
        self.assertEqual(found[1], [0, INF, 0])
        self.assertEqual(found[2][1:3], [NAN, NAN])


class AgainstTheModel(unittest.TestCase):
    def check(self, seed, start, speed, rows, count):
        model = Model()
        model.taps = pairs(start)
        model.rate = speed
        signal = rows(2 * count)
        wanted = rows(2 * count)
        found = each_answer(BEGIN, taps(start), rate(speed), learn(signal, wanted), TOLD)
        self.assertEqual(found[3], [0] + model.learn(signal, wanted), seed)
        self.assertEqual(found[4], [0] + model.told(), seed)

    def test_ordinary_numbers(self):
        for seed in range(6):
            numbers = Numbers(seed)
            rows = lambda count: numbers.row_between(count, 0x2C00, 0x3C00)
            self.check(seed, rows(32), numbers.half_between(0x1800, 0x2400), rows, 24)

    def test_tiny_numbers(self):
        for seed in range(3):
            numbers = Numbers(seed)
            rows = lambda count: numbers.row_between(count, 0x0000, 0x1400)
            self.check(seed, rows(32), numbers.half_between(0x3800, 0x4800), rows, 20)

    def test_numbers_of_all_sizes(self):
        for seed in range(6):
            numbers = Numbers(seed)
            self.check(seed, numbers.rows_of_all_sizes(32), numbers.half_between(0x0000, 0x3C00),
                       numbers.rows_of_all_sizes, 8)

    def test_1_and_256_numbers(self):
        numbers = Numbers(21)
        rows = lambda count: numbers.row_between(count, 0x2C00, 0x3C00)
        self.check(21, rows(32), 0x2000, rows, 1)
        self.check(21, rows(32), 0x2000, rows, 256)


if __name__ == "__main__":
    unittest.main()
