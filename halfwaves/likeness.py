"""How two signals are alike."""

from halfwaves.pairs import added
from halfwaves.pairs import and_by_opposite


def alike(a, b):
    """The sum of sixteen of a's numbers by the opposites of b's."""
    sums = [(0, 0)] * 16
    for k in range(len(a)):
        sums[k % 16] = and_by_opposite(sums[k % 16], a[k], b[k])
    return folded(sums)


def folded(sums):
    """Sixteen sums made one, the upper half of them going to the lower one again and again."""
    left = list(sums)
    for reach in (8, 4, 2, 1):
        left = [added(left[i], left[i + reach]) for i in range(reach)]
    return left[0]
