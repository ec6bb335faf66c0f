"""Complex numbers: pairs of values (halves.py says what a value is), the real one first."""

from halfwaves.halves import MINUS_ZERO
from halfwaves.halves import ONE
from halfwaves.halves import bits_of
from halfwaves.halves import less_product
from halfwaves.halves import value_of
from halfwaves.halves import with_product


def pairs_of(row):
    """The complex numbers of a row of halves, two each."""
    return [(value_of(row[k]), value_of(row[k + 1])) for k in range(0, len(row), 2)]


def row_of(pairs):
    """The row of halves of complex numbers, two each."""
    row = []
    for pair in pairs:
        row.append(bits_of(pair[0]))
        row.append(bits_of(pair[1]))
    return row


def and_by(c, a, b):
    """c and a by b."""
    x = with_product(c[0], a[0], b[0])
    y = with_product(c[1], a[1], b[0])
    return (less_product(x, a[1], b[1]), with_product(y, a[0], b[1]))


def and_by_opposite(c, a, b):
    """c and a by b's opposite."""
    x = with_product(c[0], a[0], b[0])
    y = with_product(c[1], a[1], b[0])
    return (with_product(x, a[1], b[1]), less_product(y, a[0], b[1]))


def by(a, b):
    """a by b."""
    # -0 leaves what is added to it as it is, a product of 0 with its sign too.
    return and_by((MINUS_ZERO, MINUS_ZERO), a, b)


def by_opposite(a, b):
    """a by b's opposite."""
    return and_by_opposite((MINUS_ZERO, MINUS_ZERO), a, b)


def added(a, b):
    return (with_product(a[0], b[0], ONE), with_product(a[1], b[1], ONE))


def lessened(a, b):
    """a less b."""
    return (less_product(a[0], b[0], ONE), less_product(a[1], b[1], ONE))
