"""Halves, IEEE 754 numbers of 16 bits.

Handed over and told, a half is its bits, from 0 to 65535. Reckoned with, it is a value: how many
times 2^-24, the least half above 0, it is. No such count tells -0, an infinity or what's no number:
the value of one of these is its bits and BEYOND, which is above the count of every finite half.
"""

BEYOND = 0x1000000000000
MINUS_ZERO = 0x1000000008000
INFINITE = 0x1000000007C00
MINUS_INFINITE = 0x100000000FC00
NO_NUMBER = 0x1000000007E00
ONE = 0x1000000
TOO_GREAT = 0x10000000000
SIGN_BIT = 0x8000
EXPONENT_BITS = 0x7C00
FRACTION_BITS = 0x03FF
ALL_BUT_SIGN = 0x7FFF


def is_finite(bits):
    return (bits & EXPONENT_BITS) != EXPONENT_BITS


def value_of(bits):
    if bits == SIGN_BIT or not is_finite(bits):
        return BEYOND + bits
    size = bits & FRACTION_BITS
    exponent = (bits & EXPONENT_BITS) >> 10
    if exponent:
        size = (size + 1024) << (exponent - 1)
    return -size if bits & SIGN_BIT else size


def size_of(bits):
    """The value of a half without its sign."""
    return value_of(bits & ALL_BUT_SIGN)


def bits_of(value):
    if value >= BEYOND:
        return value - BEYOND
    size = abs(value)
    shift = max(0, size.bit_length() - 11)
    # The leading bit, which a normal half leaves out, counts here as one step of its exponent.
    bits = (shift << 10) + (size >> shift)
    return bits | SIGN_BIT if value < 0 else bits


def has_minus(value):
    return value < 0 or value == MINUS_ZERO or value == MINUS_INFINITE


def is_infinite(value):
    return value == INFINITE or value == MINUS_INFINITE


def negated(value):
    if value == NO_NUMBER:
        return value
    return value_of(bits_of(value) ^ SIGN_BIT)


def without_lowest(total, dropped):
    """total divided by 2^dropped, made whole, to the nearest, of two as near the even one."""
    return (total + (1 << (dropped - 1)) - 1 + ((total >> dropped) & 1)) >> dropped


def nearest(total):
    """The half nearest to total times 2^-48, of two as near the one whose last bit is 0."""
    # A half has eleven bits, but none worth less than 2^-24.
    dropped = total.bit_length() - 11
    if dropped < 24:
        dropped = 24
    value = without_lowest(total, dropped) << (dropped - 24)
    if value == 0:
        return MINUS_ZERO if total < 0 else 0
    if value >= TOO_GREAT:
        return INFINITE
    if value <= -TOO_GREAT:
        return MINUS_INFINITE
    return value


def with_product(c, a, b):
    """[c + a b]."""
    if c < BEYOND and a < BEYOND and b < BEYOND:
        # c isn't -0, so a sum that's 0 is +0: two with a minus would be needed for another.
        return nearest((c << 24) + a * b)
    return with_rare_product(c, a, b)


def less_product(c, a, b):
    """[c - a b]."""
    if c < BEYOND and a < BEYOND and b < BEYOND:
        return nearest((c << 24) - a * b)
    return with_rare_product(c, negated(a), b)


def with_rare_product(c, a, b):
    """[c + a b], whatever the three are."""
    if c == NO_NUMBER or a == NO_NUMBER or b == NO_NUMBER:
        return NO_NUMBER
    if is_infinite(a) or is_infinite(b):
        return with_infinite_product(c, a, b)
    if is_infinite(c):
        return c
    total = (count_of(c) << 24) + count_of(a) * count_of(b)
    if total == 0 and has_minus(c) and has_minus(a) != has_minus(b):
        return MINUS_ZERO
    return nearest(total)


def with_infinite_product(c, a, b):
    if count_of(a) == 0 or count_of(b) == 0:
        return NO_NUMBER
    infinity = MINUS_INFINITE if has_minus(a) != has_minus(b) else INFINITE
    if is_infinite(c) and c != infinity:
        return NO_NUMBER
    return infinity


def count_of(value):
    return 0 if value == MINUS_ZERO else value


def product(a, b):
    """[a b]."""
    # Of all that could be added, -0 alone leaves a product of 0 its sign.
    return with_product(MINUS_ZERO, a, b)
