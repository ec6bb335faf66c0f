"""Four bits in each number, two in each half: its sign, and whether it's near to 0."""

from halfwaves.halves import ONE
from halfwaves.halves import SIGN_BIT
from halfwaves.halves import bits_of
from halfwaves.halves import product
from halfwaves.halves import size_of
from halfwaves.halves import value_of

BELOW_0 = 1
NEAR = 2


def read_half(half, limit):
    # -0 isn't below 0, and its value isn't either.
    below = BELOW_0 if value_of(half) < 0 else 0
    # Where the limit is infinite, its value is above those of all halves that are handed over.
    near = NEAR if size_of(half) < limit else 0
    return below | near


def read_row(row, unit):
    """The four bits of each number of a row of halves."""
    limit = product(value_of(unit), 2 * ONE)
    return [read_half(row[k], limit) | read_half(row[k + 1], limit) << 2 for k in range(0, len(row), 2)]


def written_half(bits, near, far):
    half = near if bits & NEAR else far
    return half | SIGN_BIT if bits & BELOW_0 else half


def written_row(symbols, unit):
    """The row of halves, two for each four bits, that these are read of."""
    far = bits_of(product(value_of(unit), 3 * ONE))
    row = []
    for bits in symbols:
        row.append(written_half(bits, unit, far))
        row.append(written_half(bits >> 2, unit, far))
    return row
