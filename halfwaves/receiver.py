"""The calls on a receiver, one behind another in one list, and their answers."""

from halfwaves.halves import is_finite
from halfwaves.halves import value_of
from halfwaves.likeness import alike
from halfwaves.pairs import pairs_of
from halfwaves.pairs import row_of
from halfwaves.state import Receiver
from halfwaves.waves import transformed

DONE = 0


def call_begin(receiver, numbers, rows):
    receiver.begin()
    return [DONE]


def call_taps(receiver, numbers, rows):
    receiver.taps = pairs_of(rows[0])
    return [DONE]


def call_rate(receiver, numbers, rows):
    receiver.rate = value_of(rows[0][0])
    return [DONE]


def call_phase(receiver, numbers, rows):
    receiver.phase = pairs_of(rows[0])[0]
    receiver.step = pairs_of(rows[1])[0]
    return [DONE]


def call_filter(receiver, numbers, rows):
    return [DONE] + row_of(receiver.filtered(pairs_of(rows[0])))


def call_learn(receiver, numbers, rows):
    return [DONE] + row_of(receiver.learned(pairs_of(rows[0]), pairs_of(rows[1])))


def call_turn(receiver, numbers, rows):
    return [DONE] + row_of(receiver.turned(pairs_of(rows[0])))


def call_told(receiver, numbers, rows):
    return [DONE] + receiver.told()


def call_transform(receiver, numbers, rows):
    return [DONE] + row_of(transformed(pairs_of(rows[0]), numbers[0]))


def call_alike(receiver, numbers, rows):
    return [DONE] + row_of([alike(pairs_of(rows[0]), pairs_of(rows[1]))])


def without_range(numbers):
    return True


def count_in_range(numbers):
    return 1 <= numbers[0] <= 256


def way_in_range(numbers):
    return 0 <= numbers[0] <= 1


# By a call's number: how many whole numbers it has, how many rows, the range of the numbers, what it does.
CALLS = (
    (0, 0, without_range, call_begin),
    (0, 1, without_range, call_taps),
    (0, 1, without_range, call_rate),
    (0, 2, without_range, call_phase),
    (1, 1, count_in_range, call_filter),
    (1, 2, count_in_range, call_learn),
    (1, 1, count_in_range, call_turn),
    (0, 0, without_range, call_told),
    (1, 1, way_in_range, call_transform),
    (1, 2, count_in_range, call_alike),
)


# The list is only read: how far it has been gone through is kept beside it.
class CallList:
    def __init__(self, calls):
        self.calls = calls
        self.place = 0

    def has_more(self):
        return self.place < len(self.calls)

    def take_number(self):
        self.place += 1
        return self.calls[self.place - 1]

    def take_row(self):
        length = self.take_number()
        self.place += length
        return self.calls[self.place - length:self.place]


def all_finite(row):
    return all([is_finite(half) for half in row])


def answer(receiver, call, numbers, rows):
    """The answer to one call, an entry of CALLS; a refusal comes ahead of all that changes."""
    in_range = call[2]
    act = call[3]
    if not in_range(numbers):
        return [-2]
    if not all([all_finite(row) for row in rows]):
        return [-3]
    return act(receiver, numbers, rows)


def answers(calls):
    """The answers to a list of calls on a new receiver, each with its length ahead of it."""
    receiver = Receiver()
    left = CallList(calls)
    answered = []
    while left.has_more():
        call = CALLS[left.take_number()]
        numbers = [left.take_number() for k in range(call[0])]
        rows = [left.take_row() for k in range(call[1])]
        reply = answer(receiver, call, numbers, rows)
        answered.append(len(reply))
        answered.extend(reply)
    return answered
