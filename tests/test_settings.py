"""Points 1, 2 and 6: begin; taps, rate, phase; told."""

import unittest

from tests.helper import (
    BEGIN, FRESH, TOLD, each_answer, halves, last_answer, learn, phase, rate, run_filter, taps, turn,
)


class Begin(unittest.TestCase):
    def test_begin_answers_0_alone(self):
        self.assertEqual(each_answer(BEGIN), [[0]])

    def test_what_is_told_behind_begin(self):
        self.assertEqual(each_answer(BEGIN, TOLD), [[0], [0] + FRESH])

    def test_begin_again_is_as_at_first(self):
        calls = [
            BEGIN, taps(halves(*range(32))), rate(0x3C00), phase(halves(2, 3), halves(4, 5)),
            run_filter(halves(*range(40))), learn(halves(1, 2), halves(3, 4)), turn(halves(1, 2)),
        ]
        self.assertNotEqual(last_answer(*calls, TOLD), [0] + FRESH)
        self.assertEqual(each_answer(*calls, BEGIN, TOLD)[-2:], [[0], [0] + FRESH])

    def test_begin_again_forgets_what_came(self):
        ones = taps(halves(*[1, 0] * 16))
        found = last_answer(BEGIN, ones, run_filter(halves(5, 6)), BEGIN, ones, run_filter(halves(1, 2)))
        self.assertEqual(found, [0] + halves(1, 2))


class Settings(unittest.TestCase):
    def test_taps_are_these_from_now_on(self):
        new = halves(*range(-16, 16))
        found = each_answer(BEGIN, taps(new), TOLD)
        self.assertEqual(found[1], [0])
        self.assertEqual(found[2], [0] + new + FRESH[32:])

    def test_the_rate_is_this_from_now_on(self):
        found = each_answer(BEGIN, rate(0xBC01), TOLD)
        self.assertEqual(found[1], [0])
        self.assertEqual(found[2], [0] + FRESH[:62] + [0xBC01] + FRESH[63:])

    def test_phase_and_step_are_these_from_now_on(self):
        found = each_answer(BEGIN, phase(halves(2, 3), halves(-4, 5)), TOLD)
        self.assertEqual(found[1], [0])
        self.assertEqual(found[2], [0] + FRESH[:63] + halves(2, 3, -4, 5))

    def test_the_last_setting_holds(self):
        calls = (BEGIN, taps([0x3C01] * 32), taps([0x3C02] * 32), rate(1), rate(2),
                 phase([1, 2], [3, 4]), phase([5, 6], [7, 8]), TOLD)
        self.assertEqual(last_answer(*calls), [0] + [0x3C02] * 32 + [0] * 30 + [2, 5, 6, 7, 8])

    def test_each_setting_leaves_the_others(self):
        all_set = (BEGIN, taps([0x0001] * 32), rate(0x0002), phase([0x0003, 0x0004], [0x0005, 0x0006]))
        before = last_answer(*all_set, TOLD)
        self.assertEqual(before, [0] + [1] * 32 + [0] * 30 + [2, 3, 4, 5, 6])
        self.assertEqual(last_answer(*all_set, taps([7] * 32), TOLD), [0] + [7] * 32 + before[33:])
        self.assertEqual(last_answer(*all_set, rate(7), TOLD), before[:63] + [7] + before[64:])
        self.assertEqual(last_answer(*all_set, phase([7, 8], [9, 10]), TOLD), before[:64] + [7, 8, 9, 10])

    def test_halves_are_kept_to_the_bit(self):
        new = [0x8000, 0x0000, 0x8001, 0x03FF, 0x0400, 0x7BFF, 0xFBFF, 0x3555] * 4
        calls = (BEGIN, taps(new), rate(0x8000), phase([0x8000, 0xFBFF], [0x8001, 0x8000]), TOLD)
        self.assertEqual(last_answer(*calls), [0] + new + [0] * 30 + [0x8000, 0x8000, 0xFBFF, 0x8001, 0x8000])


class Told(unittest.TestCase):
    def test_what_came_the_latest_is_told_first(self):
        found = last_answer(BEGIN, run_filter(halves(1, 2, 3, 4)), run_filter(halves(5, 6)), TOLD)
        self.assertEqual(found[33:63], halves(5, 6, 3, 4, 1, 2) + [0] * 24)

    def test_of_what_came_the_last_fifteen_are_told(self):
        found = last_answer(BEGIN, run_filter(halves(*range(1, 41))), TOLD)
        expected = []
        for number in range(20, 5, -1):
            expected += halves(2 * number - 1, 2 * number)
        self.assertEqual(found[33:63], expected)

    def test_told_changes_nothing(self):
        calls = (BEGIN, taps(halves(*range(32))), rate(0x3800), learn(halves(1, 2, 3, 4), halves(0, 1, 0, 1)))
        found = each_answer(*calls, TOLD, TOLD)
        self.assertEqual(len(found[-1]), 68)
        self.assertEqual(found[-2], found[-1])


if __name__ == "__main__":
    unittest.main()
