"""Lists of calls to hand in, and a model of the receiver in exact fractions to hold its answers against.

The model is slow and shares no code with the package: halves are looked up among all that there are.
"""

import struct
from bisect import bisect_left
from fractions import Fraction

from halfwaves.receiver import answers

NAN = 0x7E00
INF = 0x7C00
MINUS = 0x8000
LARGE = 2147483647
SMALL = -2147483648
BAD_COUNTS = (0, 257, -1, -256, 65536, SMALL, LARGE)
BAD_SHIFTS = (-1, 16, 17, 32, SMALL, LARGE)
NOT_FINITE = (0x7C00, 0xFC00, 0x7E00, 0xFE00, 0x7C01, 0xFFFF)
FRESH = [0x3C00] + [0] * 31 + [0] * 30 + [0] + [0x3C00, 0] + [0x3C00, 0]

BEGIN = [0]
TOLD = [7]


def half(number):
    """The bits of a number that is a half to the last bit."""
    bits = struct.unpack("<H", struct.pack("<e", number))[0]
    if struct.unpack("<e", struct.pack("<e", number))[0] != number:
        raise ValueError(number)
    return bits


def halves(*numbers):
    return [half(number) for number in numbers]


def row(numbers):
    return [len(numbers)] + list(numbers)


def padded(numbers, length=32):
    return list(numbers) + [0] * (length - len(numbers))


def taps(numbers):
    """The call taps; those not told are 0."""
    return [1] + row(padded(numbers))


def rate(bits):
    return [2, 1, bits]


def phase(now, step):
    return [3] + row(now) + row(step)


def run_filter(signal):
    return [4, len(signal) // 2] + row(signal)


def learn(signal, wanted):
    return [5, len(signal) // 2] + row(signal) + row(wanted)


def turn(signal):
    return [6, len(signal) // 2] + row(signal)


def transform(way, signal):
    return [8, way] + row(padded(signal))


def alike(a, b):
    return [9, len(a) // 2] + row(a) + row(b)


def power(a):
    return [10, len(a) // 2] + row(a)


def find(a, code):
    return [11, len(a) // 2, len(code) // 2] + row(a) + row(code)


def level(a):
    return [12, len(a) // 2] + row(a)


def size(a):
    return [13, len(a) // 2] + row(a)


def twist(way, a, b, c):
    return [14, len(a) // 2, way] + row(a) + row(b) + row(c)


def read(a, unit):
    return [15, len(a) // 2] + row(a) + row([unit])


def write(bits, unit):
    return [16] + row(bits) + row([unit])


def make_whole(shift, a):
    return [17, len(a) // 2, shift] + row(a)


def make_half(shift, a):
    return [18, len(a) // 2, shift] + row(a)


def each_answer(*calls):
    """The answers to these calls in one list, a list each."""
    left = answers([number for call in calls for number in call])
    found = []
    while left:
        length = left[0]
        found.append(left[1:1 + length])
        if len(found[-1]) != length:
            raise ValueError("an answer is shorter than it says")
        left = left[1 + length:]
    return found


def last_answer(*calls):
    return each_answer(*calls)[-1]


class Numbers:
    """A row of numbers that is the same each time, and looks like none in particular."""

    def __init__(self, seed):
        self.state = seed

    def below(self, limit):
        self.state = (self.state * 6364136223846793005 + 1442695040888963407) % 2 ** 64
        return (self.state >> 33) % limit

    def half_between(self, least, most):
        return least + self.below(most - least + 1) | self.below(2) * MINUS

    def row_between(self, count, least, most):
        return [self.half_between(least, most) for _ in range(count)]

    def rows_of_all_sizes(self, count):
        """Finite halves: mostly near 1, some 0, some tiny, some great."""
        ranges = ((0x3000, 0x4400), (0x3000, 0x4400), (0x0000, 0x0000), (0x0000, 0x0800), (0x6000, 0x7BFF))
        return [self.half_between(*ranges[self.below(5)]) for _ in range(count)]


# The model: every finite half that has no minus, by its bits; then what would follow the greatest.
SIZES = [Fraction(struct.unpack("<e", struct.pack("<H", bits))[0]) for bits in range(INF)]
SIZES.append(Fraction(65536))


def is_nan(bits):
    return bits & 0x7FFF > INF


def is_inf(bits):
    return bits & 0x7FFF == INF


def exact(bits):
    size = SIZES[bits & 0x7FFF]
    return -size if bits & MINUS else size


def rounded(number, zero_sign):
    """[number]; zero_sign is the sign of a number that is 0."""
    sign = MINUS if number < 0 else zero_sign if number == 0 else 0
    size = abs(number)
    above = bisect_left(SIZES, size)
    if above == len(SIZES):
        return INF | sign
    if above == 0:
        return sign
    up = SIZES[above] - size
    down = size - SIZES[above - 1]
    if up < down or (up == down and above % 2 == 0):
        return above | sign
    return above - 1 | sign


def model_product(a, b):
    """[a b]."""
    sign = (a ^ b) & MINUS
    if is_nan(a) or is_nan(b):
        return NAN
    if is_inf(a) or is_inf(b):
        return NAN if a & 0x7FFF == 0 or b & 0x7FFF == 0 else INF | sign
    return rounded(exact(a) * exact(b), sign)


def model_fused(c, a, b):
    """[c + a b]."""
    if is_nan(c) or is_nan(a) or is_nan(b):
        return NAN
    if is_inf(a) or is_inf(b):
        product = model_product(a, b)
        return NAN if is_inf(c) and c != product else product
    if is_inf(c):
        return c
    return rounded(exact(c) + exact(a) * exact(b), c & (a ^ b) & MINUS)


def model_sum(a, b):
    if is_nan(a) or is_nan(b) or (is_inf(a) and is_inf(b) and a != b):
        return NAN
    if is_inf(a) or is_inf(b):
        return a if is_inf(a) else b
    return rounded(exact(a) + exact(b), a & b & MINUS)


def model_less(a, b):
    return model_sum(a, b ^ MINUS)


def model_by(a, b, opposite=0):
    """a by b; by b's opposite, where that is MINUS."""
    x = model_product(a[0], b[0])
    y = model_product(a[1], b[0])
    return (model_fused(x, a[1] ^ MINUS ^ opposite, b[1]), model_fused(y, a[0] ^ opposite, b[1]))


def model_and_by(c, a, b, opposite=0):
    x = model_fused(c[0], a[0], b[0])
    y = model_fused(c[1], a[1], b[0])
    return (model_fused(x, a[1] ^ MINUS ^ opposite, b[1]), model_fused(y, a[0] ^ opposite, b[1]))


def both(work, a, b):
    return (work(a[0], b[0]), work(a[1], b[1]))


def pairs(numbers):
    return list(zip(numbers[0::2], numbers[1::2]))


def flat(complex_numbers):
    return [part for number in complex_numbers for part in number]


class Model:
    """What a receiver does, in the document's own steps."""

    def __init__(self):
        self.all_came = []
        self.taps = [(0x3C00, 0)] + [(0, 0)] * 15
        self.rate = 0
        self.phase = (0x3C00, 0)
        self.step = (0x3C00, 0)

    def x(self, j):
        return self.all_came[-1 - j] if j < len(self.all_came) else (0, 0)

    def heard(self):
        result = (0, 0)
        for j in range(16):
            result = model_and_by(result, self.taps[j], self.x(j))
        return result

    def filter(self, signal):
        result = []
        for number in pairs(signal):
            self.all_came.append(number)
            result.append(self.heard())
        return flat(result)

    def learn(self, signal, wanted):
        result = []
        for number, aim in zip(pairs(signal), pairs(wanted)):
            self.all_came.append(number)
            e = both(model_less, aim, self.heard())
            g = (model_product(e[0], self.rate), model_product(e[1], self.rate))
            for j in range(16):
                self.taps[j] = model_and_by(self.taps[j], g, self.x(j), MINUS)
            result.append(e)
        return flat(result)

    def turn(self, signal):
        result = []
        for number in pairs(signal):
            result.append(model_by(number, self.phase))
            self.phase = model_by(self.phase, self.step)
        return flat(result)

    def told(self):
        came = [self.x(j) for j in range(15)]
        return flat(self.taps) + flat(came) + [self.rate] + flat([self.phase, self.step])


TURNS = (
    (0x3C00, 0x0000), (0x3B64, 0xB61F), (0x39A8, 0xB9A8), (0x361F, 0xBB64),
    (0x0000, 0xBC00), (0xB61F, 0xBB64), (0xB9A8, 0xB9A8), (0xBB64, 0xB61F),
)


def model_transform(way, signal):
    numbers = pairs(signal)
    numbers = [numbers[int(f"{k:04b}"[::-1], 2)] for k in range(16)]
    for h in (1, 2, 4, 8):
        for k in range(16):
            if k & h:
                continue
            u = numbers[k]
            t = model_by(numbers[k + h], TURNS[(k % h) * 8 // h], way * MINUS)
            numbers[k] = both(model_sum, u, t)
            numbers[k + h] = both(model_less, u, t)
    return flat(numbers)


def model_alike(a, b):
    sums = [(0, 0)] * 16
    for k, (one, other) in enumerate(zip(pairs(a), pairs(b))):
        sums[k % 16] = model_and_by(sums[k % 16], one, other, MINUS)
    for reach in (8, 4, 2, 1):
        for i in range(reach):
            sums[i] = both(model_sum, sums[i], sums[i + reach])
    return list(sums[0])


def model_power(a):
    sums = [0] * 32
    for e, number in enumerate(a):
        sums[e % 32] = model_fused(sums[e % 32], number, number)
    for reach in (16, 8, 4, 2, 1):
        for i in range(reach):
            sums[i] = model_sum(sums[i], sums[i + reach])
    return [sums[0]]


def model_strength(z):
    return model_fused(model_product(z[1], z[1]), z[0], z[0])


def model_find(a, code):
    strengths = [model_strength(model_alike(a[k:k + len(code)], code)) for k in range(0, len(a) - len(code) + 1, 2)]
    # The bits of halves without a minus are in the order of the halves.
    ranks = [-1 if is_nan(strength) else strength for strength in strengths]
    place = ranks.index(max(ranks))
    return [place, strengths[place]]


def model_level(a):
    """The whole answer, the level first; all of a being 0 is refused."""
    greatest = max(abs(exact(number)) for number in a)
    if greatest == 0:
        return [-5]
    e = next(e for e in range(-24, 16) if Fraction(2) ** e <= greatest < Fraction(2) ** (e + 1))
    return [e + 24] + [rounded(exact(number) / Fraction(2) ** e, number & MINUS) for number in a]


def model_size(a):
    result = []
    for number in pairs(a):
        sizes = sorted(abs(exact(part)) for part in number)
        result.append(rounded(Fraction(3, 8) * sizes[0] + sizes[1], 0))
    return result


# By way: what the product's sign and the third number's become, of the real parts, then of the others.
TWIST_SIGNS = (
    ((0, MINUS), (0, 0)), ((0, 0), (0, MINUS)), ((MINUS, 0), (MINUS, 0)), ((MINUS, MINUS), (MINUS, MINUS)),
)


def model_twist(way, a, b, c):
    result = []
    for k in range(len(a)):
        of_product, of_third = TWIST_SIGNS[way][k % 2]
        result.append(model_fused(c[k] ^ of_third, a[k] ^ of_product, b[k]))
    return result


def model_read(a, unit):
    limit = rounded(2 * exact(unit), 0)
    result = []
    for number in pairs(a):
        bits = [part for half in number for part in (exact(half) < 0, half & 0x7FFF < limit)]
        result.append(sum(1 << k for k in range(4) if bits[k]))
    return result


def model_write(symbols, unit):
    far = rounded(3 * exact(unit), 0)
    result = []
    for symbol in symbols:
        for bits in (symbol % 4, symbol // 4):
            result.append((unit if bits >= 2 else far) + bits % 2 * MINUS)
    return result


def model_whole(shift, a):
    return [max(-32768, min(32767, round(exact(number) * 2 ** shift))) % 65536 for number in a]


def model_half(shift, a):
    signed = [number - 65536 if number >= 32768 else number for number in a]
    return [rounded(Fraction(number, 2 ** shift), 0) for number in signed]
