"""Halves made whole numbers of 16 bits, which stand modulo 65536, and whole numbers made halves."""

from halfwaves.halves import bits_of
from halfwaves.halves import count_of
from halfwaves.halves import nearest
from halfwaves.halves import value_of
from halfwaves.halves import without_lowest


def whole_of(half, shift):
    """The whole number nearest to a half times 2^shift."""
    # A half is a count of 2^-24, so 24 bits of that are behind the point, but for the shift.
    whole = without_lowest(count_of(value_of(half)), 24 - shift)
    return min(max(whole, -32768), 32767) % 65536


def half_of(whole, shift):
    """The half nearest to a whole number divided by 2^shift."""
    signed = whole - 65536 if whole > 32767 else whole
    return bits_of(nearest(signed << (48 - shift)))


def wholes_of(row, shift):
    return [whole_of(half, shift) for half in row]


def halves_of(row, shift):
    return [half_of(whole, shift) for whole in row]
