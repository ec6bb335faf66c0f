"""Sixteen numbers taken apart into sixteen waves, and put together again."""

from halfwaves.pairs import added
from halfwaves.pairs import by
from halfwaves.pairs import by_opposite
from halfwaves.pairs import lessened
from halfwaves.pairs import pairs_of

TURNS = (
    0x3C00, 0x0000, 0x3B64, 0xB61F, 0x39A8, 0xB9A8, 0x361F, 0xBB64,
    0x0000, 0xBC00, 0xB61F, 0xBB64, 0xB9A8, 0xB9A8, 0xBB64, 0xB61F,
)

# At k stands k with its four bits in the other order.
OTHER_ORDER = (0, 8, 4, 12, 2, 10, 6, 14, 1, 9, 5, 13, 3, 11, 7, 15)


def transformed(signal, way):
    """The transform of sixteen complex numbers, way 0 or 1."""
    turns = pairs_of(TURNS)
    row = [signal[k] for k in OTHER_ORDER]
    for h in (1, 2, 4, 8):
        for k in range(16):
            if (k & h) == 0:
                cross(row, k, h, turns[(k % h) * 8 // h], way)
    return row


def cross(row, k, h, turn, way):
    u = row[k]
    v = row[k + h]
    t = by(v, turn) if way == 0 else by_opposite(v, turn)
    row[k] = added(u, t)
    row[k + h] = lessened(u, t)
