"""Numbers: what a half is, what [x] is, a by b."""

import itertools
import struct
import unittest

from halfwaves.halves import bits_of, is_finite, less_product, product, value_of, with_product
from tests.helper import (
    BEGIN, INF, MINUS, NAN, TOLD, alike, half, halves, last_answer, learn, model_by, model_fused, model_less,
    model_product, model_sum, phase, run_filter, taps, turn,
)

EDGES = [
    0x0000, 0x0001, 0x0002, 0x03FF, 0x0400, 0x0401, 0x0BFF, 0x1400, 0x3800, 0x3BFF, 0x3C00, 0x3C01, 0x6801,
    0x7800, 0x7BFF, 0x7C00, 0x7E00,
]
SIGNED_EDGES = EDGES + [edge | MINUS for edge in EDGES[:-1]]


def turned(number, now):
    """number by now, told as halves."""
    return last_answer(BEGIN, phase(now, [0x3C00, 0]), turn(number))[1:]


class HalvesAreTheirBits(unittest.TestCase):
    def test_every_finite_half_is_the_value_that_its_bits_tell(self):
        for bits in range(65536):
            if is_finite(bits) and bits != MINUS:
                told = struct.unpack("<e", struct.pack("<H", bits))[0]
                self.assertEqual(value_of(bits), told * 2 ** 24)

    def test_every_half_that_is_a_number_comes_back_as_it_was(self):
        for bits in range(65536):
            if bits & 0x7FFF <= INF:
                self.assertEqual(bits_of(value_of(bits)), bits)

    def test_finite_is_what_has_not_all_bits_of_the_exponent(self):
        for bits in (0x7C00, 0xFC00, 0x7C01, 0x7E00, 0xFE00, 0xFFFF):
            self.assertFalse(is_finite(bits))
        for bits in (0x0000, 0x8000, 0x0001, 0x7BFF, 0xFBFF):
            self.assertTrue(is_finite(bits))


class EachBracketOfEdges(unittest.TestCase):
    def test_sums_with_a_product(self):
        for c, a, b in itertools.product(SIGNED_EDGES, repeat=3):
            found = bits_of(with_product(value_of(c), value_of(a), value_of(b)))
            self.assertEqual(found, model_fused(c, a, b), (hex(c), hex(a), hex(b)))

    def test_differences_with_a_product(self):
        for c, a, b in itertools.product(SIGNED_EDGES, repeat=3):
            found = bits_of(less_product(value_of(c), value_of(a), value_of(b)))
            self.assertEqual(found, model_fused(c, a ^ MINUS, b), (hex(c), hex(a), hex(b)))

    def test_products(self):
        for a, b in itertools.product(SIGNED_EDGES, repeat=2):
            self.assertEqual(bits_of(product(value_of(a), value_of(b))), model_product(a, b), (hex(a), hex(b)))


class RoundingIsToTheNearest(unittest.TestCase):
    def product_of(self, a, b):
        return turned([a, 0], [b, 0])[0]

    def sum_of(self, a, b):
        """a at the number before this one, b at this one."""
        return last_answer(BEGIN, taps([0x3C00, 0, 0x3C00, 0]), run_filter([a, 0, b, 0]))[3]

    def test_the_nearer_of_two(self):
        self.assertEqual(self.sum_of(half(4096), half(3)), half(4100))
        self.assertEqual(self.sum_of(half(4096), half(1)), half(4096))

    def test_of_two_as_near_the_one_whose_last_bit_is_0(self):
        self.assertEqual(self.sum_of(half(2048), half(1)), half(2048))
        self.assertEqual(self.sum_of(half(2050), half(1)), half(2052))
        self.assertEqual(self.sum_of(half(-2048), half(-1)), half(-2048))
        self.assertEqual(self.sum_of(half(-2050), half(-1)), half(-2052))

    def test_rounding_may_carry_into_the_exponent(self):
        self.assertEqual(self.sum_of(half(2047), half(0.5)), half(2048))
        self.assertEqual(self.sum_of(half(-2047), half(-0.5)), half(-2048))

    def test_below_the_least_normal_half_the_bits_get_fewer(self):
        self.assertEqual(self.product_of(0x0001, half(0.75)), 0x0001)
        self.assertEqual(self.product_of(0x0003, half(0.5)), 0x0002)
        self.assertEqual(self.product_of(0x0005, half(0.5)), 0x0002)
        self.assertEqual(self.product_of(0x07FF, half(0.5)), 0x0400)
        self.assertEqual(self.product_of(0x8401, half(0.5)), 0x8200)
        self.assertEqual(self.sum_of(0x03FF, 0x0001), 0x0400)
        self.assertEqual(self.sum_of(0x0400, 0x8001), 0x03FF)

    def test_the_half_of_the_least_half_is_0_with_its_sign(self):
        self.assertEqual(turned([0x0001, 0], [half(0.5), 0]), [0x0000, 0x0000])
        self.assertEqual(turned([0x8001, 0], [half(0.5), 0]), [0x8000, 0x0000])
        self.assertEqual(turned([0x8001, 0], [0x0001, 0]), [0x8000, 0x0000])

    def test_infinity_where_it_is_too_great(self):
        self.assertEqual(self.sum_of(0x7BFF, half(15.9921875)), 0x7BFF)
        self.assertEqual(self.sum_of(0x7BFF, half(16)), 0x7C00)
        self.assertEqual(self.sum_of(0xFBFF, half(-15.9921875)), 0xFBFF)
        self.assertEqual(self.sum_of(0xFBFF, half(-16)), 0xFC00)
        self.assertEqual(self.product_of(0x7BFF, 0x7BFF), 0x7C00)
        self.assertEqual(self.product_of(0x7BFF, 0xFBFF), 0xFC00)

    def test_what_got_infinite_stays_so(self):
        # The newest number counts first: 32768 + 32768 is too great, and -32768 doesn't bring it back.
        start = (BEGIN, taps(halves(*[1, 0] * 3)))
        self.assertEqual(last_answer(*start, run_filter(halves(-32768, 0, 32768, 0, 32768, 0)))[5], 0x7C00)
        self.assertEqual(last_answer(*start, run_filter(halves(32768, 0, -32768, 0, -32768, 0)))[5], 0xFC00)
        self.assertEqual(last_answer(*start, run_filter(halves(32768, 0, 32768, 0, -32768, 0)))[5], half(32768))


class EachBracketIsRoundedOnce(unittest.TestCase):
    def test_a_product_within_a_sum_is_not_rounded_by_itself(self):
        # (1 + 2^-10)(1 - 2^-11) would be 1 by itself.
        signal = [0x3BFF, 0, half(-1), 0]
        self.assertEqual(last_answer(BEGIN, taps([0x3C00, 0, 0x3C01, 0]), run_filter(signal))[3], 0x0FFE)

    def test_a_product_too_great_by_itself_may_come_back(self):
        # [2 * 32768] would be infinite.
        calls = (BEGIN, taps([0x3C00, 0, half(2), 0]), run_filter([half(32768), 0, half(-40000), 0]))
        self.assertEqual(last_answer(*calls)[3], half(25536))

    def test_the_first_step_is_rounded_ahead_of_the_second(self):
        # (1 + 2^-10)^2 is 1 + 2^-9 by itself, and the second step takes just that away.
        self.assertEqual(turned([0x3C01, 0x3C02], [0x3C01, 0x3C00]), [0x0000, 0x4002])

    def test_the_other_part_takes_a_two_strokes_by_b_one_stroke_first(self):
        self.assertEqual(turned([0x3C00, 0x3C01], [0x3C01, 0xBC02])[1], 0x0000)
        self.assertNotEqual(turned([0x3C01, 0xBC02], [0x3C00, 0x3C01])[1], 0x0000)


class SignsOfZero(unittest.TestCase):
    def test_a_product_of_0_has_the_sign_of_a_product(self):
        self.assertEqual(turned([0x8000, 0x0000], [0x3C00, 0x0000]), [0x8000, 0x0000])
        self.assertEqual(turned([0x8000, 0x8000], [0xBC00, 0x0000]), [0x0000, 0x0000])
        self.assertEqual(turned([0x0000, 0x8000], [0x3C00, 0x8000]), [0x0000, 0x8000])

    def test_a_difference_that_is_0_is_plus_0(self):
        self.assertEqual(turned([0x3C00, 0x3C00], [0x3C00, 0x3C00])[0], 0x0000)
        self.assertEqual(turned([0xBC00, 0xBC00], [0x3C00, 0x3C00])[0], 0x0000)

    def test_a_sum_of_two_zeros_has_a_minus_only_if_both_have(self):
        # Each number of the row leaves -0 in a sum of its own; a sum that gets none stays +0.
        self.assertEqual(last_answer(alike([0x8001, 0x8001] * 16, [0x3800, 0x0000] * 16)), [0, 0x8000, 0x0000])
        self.assertEqual(last_answer(alike([0x8001, 0x8001] * 15, [0x3800, 0x0000] * 15)), [0, 0x0000, 0x0000])

    def test_a_difference_of_two_zeros_has_a_minus_only_if_it_is_minus_0_less_0(self):
        self.assertEqual(last_answer(BEGIN, learn([0, 0], [0x8000, 0x0000])), [0, 0x8000, 0x0000])

    def test_sums_and_differences_of_two(self):
        one = value_of(0x3C00)
        for a, b in itertools.product(SIGNED_EDGES, repeat=2):
            self.assertEqual(bits_of(with_product(value_of(a), value_of(b), one)), model_sum(a, b))
            self.assertEqual(bits_of(less_product(value_of(a), value_of(b), one)), model_less(a, b))


class InfiniteAndNoNumber(unittest.TestCase):
    def phases(self, *signal):
        """The answers where the phase is infinite in both parts from the second number on."""
        calls = (BEGIN, phase([0x7BFF, 0x0000], halves(2, 2)), turn([0, 0] + list(signal)))
        return last_answer(*calls)[3:]

    def test_infinite_times_a_number(self):
        self.assertEqual(self.phases(*halves(1, -1)), [INF, NAN])

    def test_infinite_less_infinite_is_no_number(self):
        self.assertEqual(self.phases(*halves(1, 1)), [NAN, INF])

    def test_infinite_times_0_is_no_number(self):
        self.assertEqual(self.phases(*halves(1, 0)), [NAN, NAN])

    def test_no_number_is_kept_and_told_as_7e00(self):
        calls = (BEGIN, phase([0x7BFF, 0], halves(2, 2)), turn(halves(0, 0, 0, 0)), TOLD)
        self.assertEqual(last_answer(*calls)[-4:], [NAN, INF] + halves(2, 2))
        calls = (BEGIN, phase([0x7BFF, 0], halves(-2, 2)), turn(halves(0, 0, 0, 0, 1, 1)), TOLD)
        self.assertEqual(last_answer(*calls)[-4:-2], [NAN, NAN])


class ComplexProducts(unittest.TestCase):
    def test_a_by_b_of_edges(self):
        finite = [0x0000, 0x8000, 0x0001, 0x83FF, 0x3C00, 0xBC01, 0x7BFF, 0xF800]
        for a in itertools.product(finite, repeat=2):
            for b in itertools.product(finite, repeat=2):
                self.assertEqual(tuple(turned(list(a), list(b))), model_by(a, b), (a, b))


if __name__ == "__main__":
    unittest.main()
