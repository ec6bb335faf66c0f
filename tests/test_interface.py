"""The interface: the form of the list of calls, and of the list that is given back."""

import unittest

from halfwaves.receiver import answers
from tests.helper import (
    BEGIN, FRESH, TOLD, Model, Numbers, alike, each_answer, halves, learn, model_alike, model_transform, pairs, phase,
    rate, row, run_filter, taps, transform, turn,
)


def all_calls(seed):
    """One list with every call, some twice, and refusals among them."""
    numbers = Numbers(seed)
    made = lambda count: numbers.row_between(count, 0x2C00, 0x3C00)
    calls = [
        transform(1, made(32)), alike(made(6), made(6)), BEGIN, taps(made(32)), rate(made(1)[0]),
        phase(made(2), made(2)), run_filter(made(10)), learn(made(10), made(10)), turn(made(10)), TOLD,
        transform(0, made(32)), alike(made(40), made(40)), [4, 257, 0], rate(0x7E00), BEGIN,
        learn(made(4), made(4)), TOLD,
    ]
    return [number for call in calls for number in call]


class TheForm(unittest.TestCase):
    def test_an_empty_list(self):
        self.assertEqual(answers([]), [])

    def test_each_answer_has_its_length_ahead(self):
        self.assertEqual(answers([0]), [1, 0])
        self.assertEqual(answers([0, 7]), [1, 0, 68, 0] + FRESH)
        self.assertEqual(answers([0, 2, 1, 0x3C00]), [1, 0, 1, 0])
        self.assertEqual(answers([0, 3, 2, 0x3C00, 0, 2, 0x3C00, 0]), [1, 0, 1, 0])
        self.assertEqual(answers([0, 4, 1, 2, 0x3C00, 0x4000]), [1, 0, 3, 0, 0x3C00, 0x4000])
        self.assertEqual(answers([0, 5, 1, 2, 0x3C00, 0, 2, 0x4000, 0]), [1, 0, 3, 0, 0x3C00, 0])
        self.assertEqual(answers([0, 6, 1, 2, 0x3C00, 0x4000]), [1, 0, 3, 0, 0x3C00, 0x4000])
        self.assertEqual(answers([8, 0, 32] + [0] * 32), [33] + [0] * 33)
        self.assertEqual(answers([9, 1, 2, 0x3C00, 0, 2, 0x4000, 0]), [3, 0, 0x4000, 0])

    def test_a_refusal_is_its_number_alone(self):
        self.assertEqual(answers([9, 0, 0, 0]), [1, -2])
        self.assertEqual(answers([0, 4, -2147483648, 0, 2, 1, 0x7C00]), [1, 0, 1, -2, 1, -3])

    def test_a_refused_call_is_gone_through_to_its_end(self):
        self.assertEqual(answers([8, 5] + row([0x7C00] * 32) + [0]), [1, -2, 1, 0])

    def test_it_gives_back_a_list_of_whole_numbers(self):
        found = answers(all_calls(1))
        self.assertIs(type(found), list)
        self.assertEqual({type(number) for number in found}, {int})


class NothingIsKept(unittest.TestCase):
    def test_the_list_handed_in_is_as_it_was(self):
        calls = all_calls(2)
        copy = list(calls)
        answers(calls)
        self.assertEqual(calls, copy)

    def test_the_same_list_answers_the_same(self):
        calls = all_calls(3)
        first = answers(calls)
        copy = list(first)
        answers(all_calls(4))
        self.assertEqual(answers(calls), copy)
        self.assertEqual(first, copy)

    def test_what_is_given_back_is_the_caller_s(self):
        first = answers([0, 7])
        first[3] = 99
        first.append(5)
        self.assertEqual(answers([0, 7]), [1, 0, 68, 0] + FRESH)

    def test_each_list_has_a_new_receiver(self):
        answers([0] + taps([0x4000] * 32) + run_filter(halves(1, 2)))
        self.assertEqual(answers([0, 7]), [1, 0, 68, 0] + FRESH)


class LongLists(unittest.TestCase):
    def test_300_calls(self):
        self.assertEqual(answers([0] * 300), [1, 0] * 300)

    def test_close_to_30000_numbers(self):
        signal = halves(1, 2) * 256
        calls = BEGIN + run_filter(signal) * 58
        self.assertLessEqual(len(calls), 30000)
        self.assertEqual(answers(calls), [1, 0] + ([513, 0] + signal) * 58)


class OneBehindAnother(unittest.TestCase):
    def test_told_behind_each_call_that_changes_something(self):
        for seed in range(3):
            numbers = Numbers(seed)
            model = Model()
            calls = [BEGIN]
            expected = [[0]]
            for kind in [numbers.below(9) for _ in range(14)]:
                call, answer = self.next_call(kind, numbers, model)
                calls += [call, TOLD]
                expected += [[0] + answer, [0] + model.told()]
            self.assertEqual(each_answer(*calls), expected)

    def next_call(self, kind, numbers, model):
        made = lambda count: numbers.row_between(count, 0x2C00, 0x3C00)
        signal = made(2 + 2 * numbers.below(10))
        second = made(len(signal))
        if kind == 0:
            model.__init__()
            return BEGIN, []
        if kind == 1:
            new = made(32)
            model.taps = pairs(new)
            return taps(new), []
        if kind == 2:
            model.rate = numbers.half_between(0x2000, 0x3000)
            return rate(model.rate), []
        if kind == 3:
            model.phase, model.step = pairs(made(4))
            return phase(model.phase, model.step), []
        if kind == 4:
            return run_filter(signal), model.filter(signal)
        if kind == 5:
            return learn(signal, second), model.learn(signal, second)
        if kind == 6:
            return turn(signal), model.turn(signal)
        if kind == 7:
            row_of_16 = made(32)
            return transform(1, row_of_16), model_transform(1, row_of_16)
        return alike(signal, second), model_alike(signal, second)


if __name__ == "__main__":
    unittest.main()
