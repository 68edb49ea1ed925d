"""Calls 15 and 16, ofwhole and towhole: whole numbers of ten sorts."""

import unittest

from known import (GREATEST, HALF, INF, LEAST, MINUS_INF, MINUS_ZERO, MODES, NAN, NV, NX, ONE, QUIET, SIGN, SIGNALING,
                   SIGNALING_TOO, ZERO, ask, quad)

SORTS = range(10)
WIDTHS = (8, 8, 16, 16, 32, 32, 64, 64, 128, 128)


def least(sort):
    return -2**(WIDTHS[sort] - 1) if sort % 2 == 0 else 0


def greatest(sort):
    return 2**(WIDTHS[sort] - 1) - 1 if sort % 2 == 0 else 2**WIDTHS[sort] - 1


class OfWhole(unittest.TestCase):
    def check(self, sort, v, found):
        self.assertEqual([ask(15, sort, v, mode) for mode in MODES], found, (sort, hex(v)))

    def test_small_numbers(self):
        for sort in SORTS:
            for v in (1, 2, 3, 100, 127):
                self.check(sort, v, [[quad(v), 0]] * 5)
            self.check(sort, 0, [[ZERO, 0]] * 5)

    def test_least_and_greatest_and_one_beyond(self):
        for sort in SORTS[:8]:
            width = WIDTHS[sort]
            self.check(sort, greatest(sort), [[quad(greatest(sort)), 0]] * 5)
            self.check(sort, least(sort) % 2**128, [[quad(least(sort)), 0]] * 5)
            self.check(sort, (least(sort) + 1) % 2**width, [[quad(least(sort) + 1), 0]] * 5)
            # One beyond each end is the other end, for only the low bits count.
            self.check(sort, greatest(sort) + 1, [[quad(least(sort)), 0]] * 5)
            self.check(sort, (least(sort) - 1) % 2**128, [[quad(greatest(sort)), 0]] * 5)

    def test_the_low_bits_alone_count(self):
        for sort in SORTS[:8]:
            width = WIDTHS[sort]
            for high in (1, 2, 2**(128 - width) - 1):
                self.check(sort, high << width | 5, [[quad(5), 0]] * 5)
                self.check(sort, high << width, [[ZERO, 0]] * 5)
                self.check(sort, high << width | 2**width - 1, [[quad(-1 if sort % 2 == 0 else 2**width - 1), 0]] * 5)

    def test_minus_one(self):
        for sort in SORTS[::2]:
            self.check(sort, 2**128 - 1, [[quad(-1), 0]] * 5)

    def test_128_bits_are_rounded(self):
        top = quad(1, 128)
        below = quad(2**113 - 1, 15)
        self.check(9, 2**128 - 1, [[bits, NX] for bits in (top, below, below, top, top)])
        self.check(9, 2**128 - 2**15, [[below, 0]] * 5)
        self.check(9, 2**128 - 2**14, [[bits, NX] for bits in (top, below, below, top, top)])
        self.check(9, 2**128 - 2**14 - 1, [[bits, NX] for bits in (below, below, below, top, below)])
        one = quad(1, 127)
        self.check(9, 2**127, [[one, 0]] * 5)
        self.check(9, 2**127 + 2**14, [[bits, NX] for bits in (one, one, one, one + 1, one + 1)])
        self.check(9, 2**127 + 3 * 2**14, [[bits, NX] for bits in (one + 2, one + 1, one + 1, one + 2, one + 2)])
        self.check(9, 2**127 + 2**14 + 1, [[bits, NX] for bits in (one + 1, one, one, one + 1, one + 1)])
        self.check(9, 2**113 + 1, [[quad(1, 113) + up, NX] for up in (0, 0, 0, 1, 1)])
        self.check(9, 2**113 - 1, [[quad(2**113 - 1), 0]] * 5)

    def test_128_bits_with_a_sign_are_rounded(self):
        top, below = quad(1, 127), quad(2**113 - 1, 14)
        self.check(8, 2**127 - 1, [[bits, NX] for bits in (top, below, below, top, top)])
        self.check(8, 2**127, [[top | SIGN, 0]] * 5)
        self.check(8, 2**127 + 1, [[bits | SIGN, NX] for bits in (top, below, top, below, top)])
        self.check(8, 2**128 - 2**113 - 1, [[(quad(1, 113) + out) | SIGN, NX] for out in (0, 0, 1, 0, 1)])


class ToWhole(unittest.TestCase):
    def check(self, sort, a, found):
        """Found is by each mode a whole number and the flags."""
        told = [ask(16, sort, a, mode) for mode in MODES]
        self.assertEqual(told, [[value % 2**128, flags] for value, flags in found], (sort, hex(a)))

    def test_whole_numbers_in_range(self):
        for sort in SORTS:
            for value in (0, 1, 2, 5, 100, 127, least(sort), least(sort) + (1 if sort < 8 else 2**15)):
                self.check(sort, quad(value), [(value, 0)] * 5)
            self.check(sort, MINUS_ZERO, [(0, 0)] * 5)
            if sort % 2 == 0:
                self.check(sort, quad(-1), [(-1, 0)] * 5)
                self.check(sort, quad(-128), [(-128, 0)] * 5)
        for sort in SORTS[:8]:
            self.check(sort, quad(greatest(sort)), [(greatest(sort), 0)] * 5)
        self.check(8, quad(2**113 - 1, 14), [(2**127 - 2**14, 0)] * 5)
        self.check(9, quad(2**113 - 1, 15), [(2**128 - 2**15, 0)] * 5)

    def test_halves_inside(self):
        for sort in SORTS:
            self.check(sort, quad(5, -1), [(n, NX) for n in (2, 2, 2, 3, 3)])
            self.check(sort, quad(7, -1), [(n, NX) for n in (4, 3, 3, 4, 4)])
            self.check(sort, quad(9, -2), [(n, NX) for n in (2, 2, 2, 3, 2)])
            self.check(sort, HALF + 1, [(n, NX) for n in (1, 0, 0, 1, 1)])
            self.check(sort, LEAST, [(n, NX) for n in (0, 0, 0, 1, 0)])
        for sort in SORTS[::2]:
            self.check(sort, quad(-5, -1), [(n, NX) for n in (-2, -2, -3, -2, -3)])
            self.check(sort, quad(-7, -1), [(n, NX) for n in (-4, -3, -4, -3, -4)])
            self.check(sort, LEAST | SIGN, [(n, NX) for n in (0, 0, -1, 0, 0)])

    def test_halves_beside_the_greatest(self):
        for sort in SORTS[:8]:
            high = greatest(sort)
            self.check(sort, quad(2 * high + 1, -1), [(high, NV), (high, NX), (high, NX), (high, NV), (high, NV)])
            self.check(sort, quad(2 * high + 1, -1) - 1, [(high, NX), (high, NX), (high, NX), (high, NV), (high, NX)])
            self.check(sort, quad(2 * high - 1, -1),
                       [(high - 1, NX), (high - 1, NX), (high - 1, NX), (high, NX), (high, NX)])

    def test_halves_beside_the_least_with_a_sign(self):
        for sort in SORTS[:8:2]:
            low = least(sort)
            self.check(sort, quad(2 * low - 1, -1), [(low, NX), (low, NX), (low, NV), (low, NX), (low, NV)])
            self.check(sort, quad(2 * low - 1, -1) + 1, [(low, NV), (low, NX), (low, NV), (low, NX), (low, NV)])
            self.check(sort, quad(2 * low + 1, -1), [(low, NX), (low + 1, NX), (low, NX), (low + 1, NX), (low, NX)])

    def test_halves_beside_zero_without_a_sign(self):
        for sort in SORTS[1::2]:
            self.check(sort, quad(-1, -1), [(0, NX), (0, NX), (0, NV), (0, NX), (0, NV)])
            self.check(sort, quad(-1, -1) + 1, [(0, NV), (0, NX), (0, NV), (0, NX), (0, NV)])
            self.check(sort, quad(-1, -2), [(0, NX), (0, NX), (0, NV), (0, NX), (0, NX)])
            self.check(sort, LEAST | SIGN, [(0, NX), (0, NX), (0, NV), (0, NX), (0, NX)])
            self.check(sort, quad(1, -1), [(0, NX), (0, NX), (0, NX), (1, NX), (1, NX)])

    def test_beyond(self):
        for sort in SORTS:
            for a in (quad(greatest(sort) + 1), quad(1, 128), quad(3, 200), GREATEST, INF):
                self.check(sort, a, [(greatest(sort), NV)] * 5)
            below = least(sort) - (1 if sort != 8 else 2**15)
            for a in (quad(below), quad(-1, 128), GREATEST | SIGN, MINUS_INF):
                self.check(sort, a, [(least(sort), NV)] * 5)

    def test_not_numbers(self):
        for sort in SORTS:
            for a in (NAN, QUIET, SIGNALING, SIGNALING_TOO, 2**128 - 1):
                self.check(sort, a, [(greatest(sort), NV)] * 5)

    def test_there_and_back(self):
        for sort in SORTS:
            for value in (least(sort), least(sort) + 2**(WIDTHS[sort] - 3), 1, greatest(sort) // 2**120 * 2**120):
                bits = ask(15, sort, value % 2**128, 0)[0]
                self.assertEqual(ask(16, sort, bits, 0), [value % 2**128, 0])
        self.assertEqual(ask(16, 9, ONE, 1), [1, 0])


if __name__ == "__main__":
    unittest.main()
