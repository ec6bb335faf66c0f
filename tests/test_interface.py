"""The interface: the form of the list of calls, and of the list that is given back."""

import unittest

from halfwaves.receiver import answers
from tests.helper import (
    BEGIN, FRESH, TOLD, Model, Numbers, alike, each_answer, find, halves, learn, level, make_half, make_whole,
    model_alike, model_find, model_half, model_level, model_power, model_read, model_size, model_transform, model_twist,
    model_whole, model_write, pairs, phase, power, rate, read, row, run_filter, size, taps, transform, turn, twist,
    write,
)


def free_calls(seed):
    """Calls 8 to 18, each with the answer that is due."""
    numbers = Numbers(seed)
    made = lambda count: numbers.row_between(count, 0x2C00, 0x4400)
    a, b, c, waves = made(40), made(40), made(40), made(32)
    symbols = [numbers.below(16) for _ in range(20)]
    whole_numbers = [numbers.below(65536) for _ in range(20)]
    way, shift = numbers.below(4), numbers.below(16)
    return [
        (transform(way % 2, waves), [0] + model_transform(way % 2, waves)),
        (alike(a, b), [0] + model_alike(a, b)),
        (power(a), [0] + model_power(a)),
        (find(a, b[:10]), model_find(a, b[:10])),
        (level(a), model_level(a)),
        (size(a), [0] + model_size(a)),
        (twist(way, a, b, c), [0] + model_twist(way, a, b, c)),
        (read(a, 0x3C00), [0] + model_read(a, 0x3C00)),
        (write(symbols, 0x3555), [0] + model_write(symbols, 0x3555)),
        (make_whole(shift, a), [0] + model_whole(shift, a)),
        (make_half(shift, whole_numbers), [0] + model_half(shift, whole_numbers)),
    ]


def all_calls(seed):
    """One list with every call, some twice, and refusals among them."""
    numbers = Numbers(seed)
    made = lambda count: numbers.row_between(count, 0x2C00, 0x3C00)
    calls = [
        transform(1, made(32)), alike(made(6), made(6)), BEGIN, taps(made(32)), rate(made(1)[0]),
        phase(made(2), made(2)), run_filter(made(10)), learn(made(10), made(10)), turn(made(10)), TOLD,
        transform(0, made(32)), alike(made(40), made(40)), [4, 257, 0], rate(0x7E00), BEGIN,
        learn(made(4), made(4)), TOLD, level([0, 0]), write([16], 0x3C00),
    ]
    calls += [call for call, answer in free_calls(seed)] + [TOLD]
    return [number for call in calls for number in call]


class TheForm(unittest.TestCase):
    def test_an_empty_list(self):
        self.assertEqual(answers([]), [])

    def test_each_answer_has_its_length_ahead(self):
        self.assertEqual(answers([0]), [1, 0])
        self.assertEqual(answers([0, 7]), [1, 0, 68, 0] + FRESH)
        self.assertEqual(answers([0, 2, 1, 0x3C00]), [1, 0, 1, 0])
        self.assertEqual(answers([0, 3, 2, 0x3C00, 0, 2, 0x3C00, 0]), [1, 0, 1, 0])
        self.assertEqual(answers([0, 4, 1, 2, 0x3C00, 0x4000]), [1, 0, 3, 0, 0x3C00, 0x4000])
        self.assertEqual(answers([0, 5, 1, 2, 0x3C00, 0, 2, 0x4000, 0]), [1, 0, 3, 0, 0x3C00, 0])
        self.assertEqual(answers([0, 6, 1, 2, 0x3C00, 0x4000]), [1, 0, 3, 0, 0x3C00, 0x4000])
        self.assertEqual(answers([8, 0, 32] + [0] * 32), [33] + [0] * 33)
        self.assertEqual(answers([9, 1, 2, 0x3C00, 0, 2, 0x4000, 0]), [3, 0, 0x4000, 0])
        self.assertEqual(answers([10, 1, 2, 0x4000, 0x3C00]), [2, 0, 0x4500])
        self.assertEqual(answers([11, 2, 1, 4, 0, 0, 0x4000, 0, 2, 0x3C00, 0]), [2, 1, 0x4400])
        self.assertEqual(answers([12, 1, 2, 0x4000, 0xBC00]), [3, 25, 0x3C00, 0xB800])
        self.assertEqual(answers([13, 1, 2, 0x4000, 0xC800]), [2, 0, 0x4860])
        self.assertEqual(answers([14, 1, 0, 2, 0x4000, 0x4000, 2, 0x4000, 0x4000, 2, 0x3C00, 0x3C00]),
                         [3, 0, 0x4200, 0x4500])
        self.assertEqual(answers([15, 2, 4, 0xBC00, 0x4200, 0x4200, 0x4200, 1, 0x3C00]), [3, 0, 3, 0])
        self.assertEqual(answers([16, 1, 3, 1, 0x3C00]), [3, 0, 0xBC00, 0x4200])
        self.assertEqual(answers([17, 1, 1, 2, 0x3C00, 0xBC00]), [3, 0, 2, 65534])
        self.assertEqual(answers([18, 1, 1, 2, 2, 65534]), [3, 0, 0x3C00, 0xBC00])

    def test_a_refusal_is_its_number_alone(self):
        self.assertEqual(answers([9, 0, 0, 0]), [1, -2])
        self.assertEqual(answers([12, 1, 2, 0, 0x8000]), [1, -5])
        self.assertEqual(answers([16, 0, 1, 0x3C00]), [1, -2])
        self.assertEqual(answers([0, 4, -2147483648, 0, 2, 1, 0x7C00]), [1, 0, 1, -2, 1, -3])

    def test_a_refused_call_is_gone_through_to_its_end(self):
        self.assertEqual(answers([8, 5] + row([0x7C00] * 32) + [0]), [1, -2, 1, 0])
        refused = [
            [11, 2, 3] + row([0x7C00] * 4) + row([]), [14, 1, 4] + row([1, 2]) + row([3, 4]) + row([5, 6]),
            [15, 0] + row([]) + row([0x3C00]), write([], 0x3C00), write([16, 16], 0), make_whole(16, [1, 2]),
            make_half(16, [1, 2]), level([0, 0]), read([0x7C00, 0], 0x3C00),
        ]
        refusals = [-2, -2, -2, -2, -3, -2, -2, -5, -3]
        for call, refusal in zip(refused, refusals):
            self.assertEqual(answers(call + [0]), [1, refusal, 1, 0], call)

    def test_it_gives_back_a_list_of_whole_numbers(self):
        found = answers(all_calls(1))
        self.assertIs(type(found), list)
        self.assertEqual({type(number) for number in found}, {int})


class NothingIsKept(unittest.TestCase):
    def test_the_list_handed_in_is_as_it_was(self):
        calls = all_calls(2)
        copy = list(calls)
        answers(calls)
        self.assertEqual(calls, copy)

    def test_the_same_list_answers_the_same(self):
        calls = all_calls(3)
        first = answers(calls)
        copy = list(first)
        answers(all_calls(4))
        self.assertEqual(answers(calls), copy)
        self.assertEqual(first, copy)

    def test_what_is_given_back_is_the_caller_s(self):
        first = answers([0, 7])
        first[3] = 99
        first.append(5)
        self.assertEqual(answers([0, 7]), [1, 0, 68, 0] + FRESH)

    def test_each_list_has_a_new_receiver(self):
        answers([0] + taps([0x4000] * 32) + run_filter(halves(1, 2)))
        self.assertEqual(answers([0, 7]), [1, 0, 68, 0] + FRESH)


class LongLists(unittest.TestCase):
    def test_300_calls(self):
        self.assertEqual(answers([0] * 300), [1, 0] * 300)

    def test_close_to_30000_numbers(self):
        signal = halves(1, 2) * 256
        calls = BEGIN + run_filter(signal) * 58
        self.assertLessEqual(len(calls), 30000)
        self.assertEqual(answers(calls), [1, 0] + ([513, 0] + signal) * 58)


    def test_300_calls_of_the_later_kinds(self):
        self.assertEqual(answers([18, 1, 0, 2, 1, 65535] * 300), [3, 0, 0x3C00, 0xBC00] * 300)

    def test_find_that_is_long_again_and_again(self):
        call = find(halves(1, 0) * 256, halves(1, 0) * 128)
        calls = call * (30000 // len(call))
        self.assertEqual(answers(calls), [2, 0, 0x7400] * (30000 // len(call)))


class TheFreeCalls(unittest.TestCase):
    def check(self, asked):
        self.assertEqual(each_answer(*[call for call, answer in asked]), [answer for call, answer in asked])

    def test_where_no_begin_is(self):
        for seed in range(4):
            self.check(free_calls(seed))

    def test_each_by_itself(self):
        for asked in free_calls(5):
            self.check([asked])

    def test_ahead_of_begin_and_behind_it(self):
        told = (TOLD, [0] + FRESH)
        self.check(free_calls(6) + [(BEGIN, [0]), told] + free_calls(7) + [told])

    def test_they_change_nothing_of_the_receiver(self):
        numbers = Numbers(8)
        made = lambda count: numbers.row_between(count, 0x2C00, 0x3C00)
        calls = [BEGIN, taps(made(32)), rate(0x2C00), phase(made(2), made(2)), run_filter(made(40)),
                 learn(made(20), made(20)), turn(made(20)), run_filter(made(6)), learn(made(6), made(6)), turn(made(6))]
        alone = each_answer(*[part for call in calls for part in (call, TOLD)])
        free = free_calls(9)
        asked = list(free)
        for k, call in enumerate(calls):
            told = (TOLD, alone[2 * k + 1])
            asked += [(call, alone[2 * k]), told, free[k], told, free[(k + 5) % 11], told]
        self.check(asked + free + [(TOLD, alone[-1])])

    def test_refused_ones_change_nothing_either(self):
        told = (TOLD, [0] + FRESH)
        refused = [(level([0, 0x8000]), [-5]), told, (write([16], 1), [-3]), told, (power([]), [-2]), told]
        self.check([(BEGIN, [0])] + refused)


class OneBehindAnother(unittest.TestCase):
    def test_told_behind_each_call_that_changes_something(self):
        for seed in range(3):
            numbers = Numbers(seed)
            model = Model()
            calls = [BEGIN]
            expected = [[0]]
            for kind in [numbers.below(9) for _ in range(14)]:
                call, answer = self.next_call(kind, numbers, model)
                calls += [call, TOLD]
                expected += [[0] + answer, [0] + model.told()]
            self.assertEqual(each_answer(*calls), expected)

    def next_call(self, kind, numbers, model):
        made = lambda count: numbers.row_between(count, 0x2C00, 0x3C00)
        signal = made(2 + 2 * numbers.below(10))
        second = made(len(signal))
        if kind == 0:
            model.__init__()
            return BEGIN, []
        if kind == 1:
            new = made(32)
            model.taps = pairs(new)
            return taps(new), []
        if kind == 2:
            model.rate = numbers.half_between(0x2000, 0x3000)
            return rate(model.rate), []
        if kind == 3:
            model.phase, model.step = pairs(made(4))
            return phase(model.phase, model.step), []
        if kind == 4:
            return run_filter(signal), model.filter(signal)
        if kind == 5:
            return learn(signal, second), model.learn(signal, second)
        if kind == 6:
            return turn(signal), model.turn(signal)
        if kind == 7:
            row_of_16 = made(32)
            return transform(1, row_of_16), model_transform(1, row_of_16)
        return alike(signal, second), model_alike(signal, second)


if __name__ == "__main__":
    unittest.main()
