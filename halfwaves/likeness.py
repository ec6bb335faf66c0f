"""How two signals are alike, and where in a signal a code is."""

from halfwaves.halves import NO_NUMBER
from halfwaves.halves import product
from halfwaves.halves import with_product
from halfwaves.pairs import added
from halfwaves.pairs import and_by_opposite


def alike(a, b):
    """The sum of sixteen of a's numbers by the opposites of b's."""
    sums = [(0, 0)] * 16
    for k in range(len(a)):
        sums[k % 16] = and_by_opposite(sums[k % 16], a[k], b[k])
    return folded(sums)


def folded(sums):
    """Sixteen sums made one, the upper half of them going to the lower one again and again."""
    left = list(sums)
    for reach in (8, 4, 2, 1):
        left = [added(left[i], left[i + reach]) for i in range(reach)]
    return left[0]


def strength(z):
    return with_product(product(z[1], z[1]), z[0], z[0])


def is_stronger(one, other):
    # No strength is -0, and the value of infinity is above all finite ones: these are as their values are.
    if one == NO_NUMBER:
        return False
    return other == NO_NUMBER or one > other


def strongest(signal, code):
    """The first of the places where the signal is alike with the code the most, and how strongly it is there."""
    place = 0
    most = NO_NUMBER
    for k in range(len(signal) - len(code) + 1):
        found = strength(alike(signal[k:k + len(code)], code))
        if is_stronger(found, most):
            place = k
            most = found
    return (place, most)
