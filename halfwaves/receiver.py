"""The calls on a receiver, one behind another in one list, and their answers."""

from halfwaves.amounts import level_of
from halfwaves.amounts import levelled
from halfwaves.amounts import power
from halfwaves.amounts import sizes
from halfwaves.halves import EXPONENT_BITS
from halfwaves.halves import bits_of
from halfwaves.halves import is_finite
from halfwaves.halves import value_of
from halfwaves.likeness import alike
from halfwaves.likeness import strongest
from halfwaves.pairs import pairs_of
from halfwaves.pairs import row_of
from halfwaves.state import Receiver
from halfwaves.symbols import read_row
from halfwaves.symbols import written_row
from halfwaves.twists import all_twisted
from halfwaves.waves import transformed
from halfwaves.wholes import halves_of
from halfwaves.wholes import wholes_of

DONE = 0


def call_begin(receiver, numbers, rows):
    receiver.begin()
    return [DONE]


def call_taps(receiver, numbers, rows):
    receiver.taps = pairs_of(rows[0])
    return [DONE]


def call_rate(receiver, numbers, rows):
    receiver.rate = value_of(rows[0][0])
    return [DONE]


def call_phase(receiver, numbers, rows):
    receiver.phase = pairs_of(rows[0])[0]
    receiver.step = pairs_of(rows[1])[0]
    return [DONE]


def call_filter(receiver, numbers, rows):
    return [DONE] + row_of(receiver.filtered(pairs_of(rows[0])))


def call_learn(receiver, numbers, rows):
    return [DONE] + row_of(receiver.learned(pairs_of(rows[0]), pairs_of(rows[1])))


def call_turn(receiver, numbers, rows):
    return [DONE] + row_of(receiver.turned(pairs_of(rows[0])))


def call_told(receiver, numbers, rows):
    return [DONE] + receiver.told()


def call_transform(receiver, numbers, rows):
    return [DONE] + row_of(transformed(pairs_of(rows[0]), numbers[0]))


def call_alike(receiver, numbers, rows):
    return [DONE] + row_of([alike(pairs_of(rows[0]), pairs_of(rows[1]))])


def call_power(receiver, numbers, rows):
    return [DONE, power(rows[0])]


def call_find(receiver, numbers, rows):
    found = strongest(pairs_of(rows[0]), pairs_of(rows[1]))
    return [found[0], bits_of(found[1])]


def call_level(receiver, numbers, rows):
    level = level_of(rows[0])
    if level < 0:
        return [-5]
    return [level] + levelled(rows[0], level)


def call_size(receiver, numbers, rows):
    return [DONE] + sizes(rows[0])


def call_twist(receiver, numbers, rows):
    return [DONE] + row_of(all_twisted(numbers[1], pairs_of(rows[0]), pairs_of(rows[1]), pairs_of(rows[2])))


def call_read(receiver, numbers, rows):
    return [DONE] + read_row(rows[0], rows[1][0])


def call_write(receiver, numbers, rows):
    return [DONE] + written_row(rows[0], rows[1][0])


def call_whole(receiver, numbers, rows):
    return [DONE] + wholes_of(rows[0], numbers[1])


def call_half(receiver, numbers, rows):
    return [DONE] + halves_of(rows[0], numbers[1])


def without_range(numbers, rows):
    return True


def count_fits(numbers, rows):
    return 1 <= numbers[0] <= 256


def wave_way_fits(numbers, rows):
    return 0 <= numbers[0] <= 1


def code_fits(numbers, rows):
    return count_fits(numbers, rows) and 1 <= numbers[1] <= numbers[0]


def twist_way_fits(numbers, rows):
    return count_fits(numbers, rows) and 0 <= numbers[1] <= 3


def shift_fits(numbers, rows):
    return count_fits(numbers, rows) and 0 <= numbers[1] <= 15


def first_row_fits(numbers, rows):
    # write's n isn't among its numbers: it is how many numbers its first row has.
    return 1 <= len(rows[0]) <= 256


def any_rows(rows):
    return True


def row_finite(row):
    return all([is_finite(half) for half in row])


def rows_finite(rows):
    return all([row_finite(row) for row in rows])


def is_unit(half):
    # Infinity's bits are those of the exponent alone; those of all finite halves above 0 are less.
    return 0 < half < EXPONENT_BITS


def signal_and_unit(rows):
    return row_finite(rows[0]) and is_unit(rows[1][0])


def symbols_and_unit(rows):
    return all([bits < 16 for bits in rows[0]]) and is_unit(rows[1][0])


# By a call's number: how many whole numbers it has, how many rows, the range of the numbers, what the rows must be,
# what it does.
CALLS = (
    (0, 0, without_range, any_rows, call_begin),
    (0, 1, without_range, rows_finite, call_taps),
    (0, 1, without_range, rows_finite, call_rate),
    (0, 2, without_range, rows_finite, call_phase),
    (1, 1, count_fits, rows_finite, call_filter),
    (1, 2, count_fits, rows_finite, call_learn),
    (1, 1, count_fits, rows_finite, call_turn),
    (0, 0, without_range, any_rows, call_told),
    (1, 1, wave_way_fits, rows_finite, call_transform),
    (1, 2, count_fits, rows_finite, call_alike),
    (1, 1, count_fits, rows_finite, call_power),
    (2, 2, code_fits, rows_finite, call_find),
    (1, 1, count_fits, rows_finite, call_level),
    (1, 1, count_fits, rows_finite, call_size),
    (2, 3, twist_way_fits, rows_finite, call_twist),
    (1, 2, count_fits, signal_and_unit, call_read),
    (0, 2, first_row_fits, symbols_and_unit, call_write),
    (2, 1, shift_fits, rows_finite, call_whole),
    (2, 1, shift_fits, any_rows, call_half),
)


# The list is only read: how far it has been gone through is kept beside it.
class CallList:
    def __init__(self, calls):
        self.calls = calls
        self.place = 0

    def has_more(self):
        return self.place < len(self.calls)

    def take_number(self):
        self.place += 1
        return self.calls[self.place - 1]

    def take_row(self):
        length = self.take_number()
        self.place += length
        return self.calls[self.place - length:self.place]


def answer(receiver, call, numbers, rows):
    """The answer to one call, an entry of CALLS; a refusal comes ahead of all that changes."""
    in_range = call[2]
    as_told = call[3]
    act = call[4]
    if not in_range(numbers, rows):
        return [-2]
    if not as_told(rows):
        return [-3]
    return act(receiver, numbers, rows)


def answers(calls):
    """The answers to a list of calls on a new receiver, each with its length ahead of it."""
    receiver = Receiver()
    left = CallList(calls)
    answered = []
    while left.has_more():
        call = CALLS[left.take_number()]
        numbers = [left.take_number() for k in range(call[0])]
        rows = [left.take_row() for k in range(call[1])]
        reply = answer(receiver, call, numbers, rows)
        answered.append(len(reply))
        answered.extend(reply)
    return answered
