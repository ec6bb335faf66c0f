"""Point 5: turn."""

import unittest

from tests.helper import (
    BEGIN, FRESH, INF, NAN, TOLD, Model, Numbers, each_answer, halves, last_answer, phase, run_filter, turn,
)


class Turn(unittest.TestCase):
    def test_a_new_receiver_turns_nothing(self):
        signal = halves(1, 2, 3, -4)
        found = each_answer(BEGIN, turn(signal), TOLD)
        self.assertEqual(found[1], [0] + signal)
        self.assertEqual(found[2], [0] + FRESH)

    def test_quarter_turns(self):
        found = each_answer(BEGIN, phase(halves(0, 1), halves(0, 1)), turn(halves(1, 2) * 3), TOLD)
        self.assertEqual(found[2], [0] + halves(-2, 1, -1, -2, 2, -1))
        self.assertEqual(found[3], [0] + FRESH[:63] + [0x3C00, 0x8000] + halves(0, 1))

    def test_the_phase_changes_behind_each_number(self):
        found = [last_answer(BEGIN, phase(halves(0, 1), halves(0, 1)), turn(halves(1, 2) * count), TOLD)[64:66]
                 for count in (1, 2, 3)]
        self.assertEqual(found, [halves(-1, 0), [0x8000, 0xBC00], [0x3C00, 0x8000]])

    def test_several_calls_turn_as_one_does(self):
        start = (BEGIN, phase([0x3B00, 0x3500], [0x3B80, 0x3480]))
        signal = Numbers(5).row_between(40, 0x3000, 0x4400)
        whole = each_answer(*start, turn(signal), TOLD)
        parts = each_answer(*start, turn(signal[:2]), turn(signal[2:]), TOLD)
        self.assertEqual(parts[2][1:] + parts[3][1:], whole[2][1:])
        self.assertEqual(parts[4], whole[3])

    def test_turn_leaves_all_but_the_phase(self):
        start = (BEGIN, run_filter(halves(1, 2, 3, 4)), phase(halves(0, 1), halves(0, -1)))
        before = last_answer(*start, TOLD)
        after = last_answer(*start, turn(halves(5, 6)), TOLD)
        self.assertEqual(after, before[:64] + halves(1, 0) + before[66:])

    def test_a_number_by_the_phase_not_the_other_way_round(self):
        start = (BEGIN, phase([0x3C01, 0xBC02], [0x3C00, 0]))
        self.assertEqual(last_answer(*start, turn([0x3C00, 0x3C01]))[2], 0x0000)

    def test_the_phase_by_the_step_not_the_other_way_round(self):
        start = (BEGIN, phase([0x3C00, 0x3C01], [0x3C01, 0xBC02]))
        self.assertEqual(last_answer(*start, turn([0, 0]), TOLD)[65], 0x0000)

    def test_infinite_and_no_number(self):
        start = (BEGIN, phase([0x7BFF, 0x7BFF], halves(2, 2)))
        found = each_answer(*start, turn([0, 0]), TOLD, turn(halves(1, 0)), TOLD)
        self.assertEqual(found[3][64:66], [INF, INF])
        self.assertEqual(found[4], [0, NAN, NAN])
        self.assertEqual(found[5][64:66], [NAN, INF])


class AgainstTheModel(unittest.TestCase):
    def check(self, now, step, signal):
        model = Model()
        model.phase = tuple(now)
        model.step = tuple(step)
        found = each_answer(BEGIN, phase(now, step), turn(signal), TOLD)
        self.assertEqual(found[2], [0] + model.turn(signal))
        self.assertEqual(found[3], [0] + model.told())

    def test_ordinary_numbers(self):
        for seed in range(10):
            numbers = Numbers(seed)
            rows = [numbers.row_between(count, 0x3000, 0x3C00) for count in (2, 2, 60)]
            self.check(*rows)

    def test_numbers_of_all_sizes(self):
        for seed in range(30):
            numbers = Numbers(seed)
            self.check(*[numbers.rows_of_all_sizes(count) for count in (2, 2, 12)])

    def test_1_and_256_numbers(self):
        numbers = Numbers(31)
        for count in (1, 256):
            self.check([0x3C00, 0], [0x3BFC, 0x2C00], numbers.row_between(2 * count, 0x3000, 0x4400))


if __name__ == "__main__":
    unittest.main()
