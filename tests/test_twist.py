"""Point 13: twist."""

import itertools
import unittest

from tests.helper import INF, MINUS, Numbers, half, halves, last_answer, model_twist, twist

WAYS = (0, 1, 2, 3)


def twists(a, b, c):
    """What each way makes of them."""
    return [last_answer(twist(way, a, b, c))[1:] for way in WAYS]


class Twist(unittest.TestCase):
    def test_each_way(self):
        found = twists(halves(2, 3), halves(5, 7), halves(1, 4))
        self.assertEqual(found, [halves(9, 25), halves(11, 17), halves(-9, -17), halves(-11, -25)])

    def test_each_way_with_numbers_below_0(self):
        found = twists(halves(-2, 3), halves(5, -7), halves(1, -4))
        self.assertEqual(found, [halves(-11, -25), halves(-9, -17), halves(11, 17), halves(9, 25)])

    def test_each_number_by_itself(self):
        found = twists(halves(1, 2, 3, 4), halves(5, 6, 7, 8), halves(1, 0, 0, 1))
        self.assertEqual(found, [halves(4, 12, 21, 33), halves(6, 12, 21, 31), halves(-4, -12, -21, -31),
                                 halves(-6, -12, -21, -33)])

    def test_it_answers_0_first(self):
        for way in WAYS:
            self.assertEqual(last_answer(twist(way, halves(1, 1), halves(1, 1), halves(0, 0)))[0], 0)

    def test_what_comes_to_0_has_no_minus(self):
        self.assertEqual(twists(halves(2, 2), halves(3, 3), halves(6, -6))[0], [0, 0])
        self.assertEqual(twists(halves(2, 2), halves(3, 3), halves(-6, 6))[1], [0, 0])
        self.assertEqual(twists(halves(2, 2), halves(3, 3), halves(6, 6))[2], [0, 0])
        self.assertEqual(twists(halves(2, 2), halves(3, 3), halves(-6, -6))[3], [0, 0])
        self.assertEqual(twists(halves(-2, 2), halves(3, -3), halves(6, 6))[3], [0, 0])

    def zeros(self, product_minus, third_minus):
        """The signs of what each way makes of products and third numbers that are 0, with a minus or without."""
        found = twists([product_minus, product_minus], halves(1, 1), [third_minus, third_minus])
        return [tuple(row) for row in found]

    def test_of_two_that_are_0(self):
        self.assertEqual(self.zeros(0, 0), [(0, 0), (0, 0), (0, 0), (MINUS, MINUS)])
        self.assertEqual(self.zeros(MINUS, 0), [(MINUS, 0), (0, MINUS), (0, 0), (0, 0)])
        self.assertEqual(self.zeros(0, MINUS), [(0, 0), (0, 0), (MINUS, MINUS), (0, 0)])
        self.assertEqual(self.zeros(MINUS, MINUS), [(0, MINUS), (MINUS, 0), (0, 0), (0, 0)])

    def test_the_product_s_sign_is_of_both(self):
        found = twists([0x8000, 0x0000], [0xBC00, 0xBC00], [0x0000, 0x8000])
        # The real product is +0, the other one -0.
        self.assertEqual(found, [[0, MINUS], [0, 0], [0, 0], [MINUS, 0]])

    def test_what_is_rounded_to_0_keeps_its_sign(self):
        # The products are 2^-48 and -2^-48.
        found = twists([0x0001, 0x0001], [0x0001, 0x8001], [0x0000, 0x0000])
        self.assertEqual(found, [[0, MINUS], [0, MINUS], [MINUS, 0], [MINUS, 0]])

    def test_a_product_is_not_rounded_by_itself(self):
        # (1 + 2^-10)(1 - 2^-11) would be 1 by itself; it is 1 + 2^-11 - 2^-21.
        a, b, minus = [0x3C01, 0x3C01], [0x3BFF, 0x3BFF], 0x8FFE
        self.assertEqual(twists(a, b, halves(1, -1))[0], [0x0FFE, 0x0FFE])
        self.assertEqual(twists(a, b, halves(-1, 1))[1], [0x0FFE, 0x0FFE])
        self.assertEqual(twists(a, b, halves(1, 1))[2], [minus, minus])
        self.assertEqual(twists(a, b, halves(-1, -1))[3], [minus, minus])

    def test_a_product_too_great_by_itself_may_come_back(self):
        found = twists(halves(32768, 32768), halves(2, 2), halves(40000, 40000))
        self.assertEqual(found, [[half(25536), INF], [INF, half(25536)], halves(-25536, -25536), [0xFC00, 0xFC00]])

    def test_infinite_where_it_is_too_great(self):
        found = twists([0x7BFF, 0xFBFF], halves(2, 2), halves(0, 0))
        self.assertEqual(found, [[INF, 0xFC00], [INF, 0xFC00], [0xFC00, INF], [0xFC00, INF]])


class AgainstTheModel(unittest.TestCase):
    def check(self, a, b, c):
        for way in WAYS:
            self.assertEqual(last_answer(twist(way, a, b, c)), [0] + model_twist(way, a, b, c), (way, a, b, c))

    def test_edges(self):
        edges = [edge | minus for edge in (0x0000, 0x0001, 0x3C00, 0x3C01, 0x7BFF) for minus in (0, MINUS)]
        # Each half twice, so that both parts get the same ones.
        rows = [[half for half in column for _ in range(2)] for column in zip(*itertools.product(edges, repeat=3))]
        for k in range(0, len(rows[0]), 500):
            self.check(*[row[k:k + 500] for row in rows])

    def test_ordinary_numbers(self):
        for seed in range(10):
            numbers = Numbers(seed)
            self.check(*[numbers.row_between(40, 0x2C00, 0x4400) for _ in range(3)])

    def test_tiny_numbers(self):
        for seed in range(5):
            numbers = Numbers(seed)
            self.check(*[numbers.row_between(40, 0x0000, most) for most in (0x1000, 0x2C00, 0x0800)])

    def test_1_and_256_numbers_of_all_sizes(self):
        numbers = Numbers(9)
        for count in (1, 256):
            self.check(*[numbers.rows_of_all_sizes(2 * count) for _ in range(3)])


if __name__ == "__main__":
    unittest.main()
