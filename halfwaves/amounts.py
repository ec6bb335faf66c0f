"""How much there is in a signal: its power, its level, the size of its numbers."""

from halfwaves.halves import MINUS_ZERO
from halfwaves.halves import ONE
from halfwaves.halves import bits_of
from halfwaves.halves import nearest
from halfwaves.halves import size_of
from halfwaves.halves import value_of
from halfwaves.halves import with_product

THREE_EIGHTHS = 0x600000


def power(row):
    """The squares of a row of halves in thirty-two sums, which are made one."""
    sums = [0] * 32
    for e, half in enumerate(row):
        value = value_of(half)
        sums[e % 32] = with_product(sums[e % 32], value, value)
    for reach in (16, 8, 4, 2, 1):
        sums = [with_product(sums[i], sums[i + reach], ONE) for i in range(reach)]
    return bits_of(sums[0])


def level_of(row):
    """e + 24, the greatest half without its sign being from 2^e on and below 2^(e + 1); -1 where all are 0."""
    # A value counts in 2^-24, so its leading bit is worth 2^(e + 24) there.
    return max([size_of(half) for half in row]).bit_length() - 1


def levelled(row, level):
    """Each half of a row times 2^-e, level being e + 24."""
    return [bits_of(lowered(value_of(half), level)) for half in row]


def lowered(value, level):
    if value == MINUS_ZERO:
        return value
    # Times 2^24, as nearest counts, and times 2^-e: 24 - e is 48 - level.
    return nearest(value << (48 - level))


def size(real, other):
    """About how far from 0 the number with these two halves is."""
    greater = max(size_of(real), size_of(other))
    less = min(size_of(real), size_of(other))
    return bits_of(with_product(greater, less, THREE_EIGHTHS))


def sizes(row):
    return [size(row[k], row[k + 1]) for k in range(0, len(row), 2)]
