"""Products, part by part, with a third number added or taken away."""

from halfwaves.halves import less_product
from halfwaves.halves import negated
from halfwaves.halves import with_product


def twisted(way, a, b, c):
    """The parts of c with a minus or without go to those of a times those of b, way 0 to 3."""
    # What is taken away is negated ahead of the sum: negated behind it, a sum that's 0 would get a minus.
    real = negated(c[0]) if way == 0 or way == 3 else c[0]
    other = negated(c[1]) if way == 1 or way == 3 else c[1]
    if way == 0 or way == 1:
        return (with_product(real, a[0], b[0]), with_product(other, a[1], b[1]))
    return (less_product(real, a[0], b[0]), less_product(other, a[1], b[1]))


def all_twisted(way, a, b, c):
    return [twisted(way, a[k], b[k], c[k]) for k in range(len(a))]
