"""Calls 20 to 22: sum, dot and poly."""

import random
import unittest

from known import (GREATEST, GREATEST_SUBNORMAL, HALF, INF, LEAST, LEAST_NORMAL, MINUS_INF, MINUS_ZERO, MODES, NAN, NV, NX,
                   OF, ONE, QUIET, REFUSED, SIGN, SIGNALING, SIGNALING_TOO, THREE, TWO, UF, ZERO, ask, power, quad)


def row_sum(row, mode=0):
    return ask(20, mode, len(row), *row)


def dot(row, other, mode=0):
    return ask(21, mode, len(row), *row, len(other), *other)


def poly(x, row, mode=0):
    return ask(22, x, mode, len(row), *row)


class Sum(unittest.TestCase):
    def by_modes(self, row, found):
        """In this order, the other way round, and with each term as a product by one."""
        for one in (row, row[::-1]):
            self.assertEqual([row_sum(one, mode) for mode in MODES], found)
            self.assertEqual([dot(one, [ONE] * len(one), mode) for mode in MODES], found)
            self.assertEqual([dot([ONE | SIGN] * len(one), [bits ^ SIGN for bits in one], mode) for mode in MODES], found)

    def test_none_and_one(self):
        self.by_modes([], [[ZERO, 0]] * 5)
        for a in (ONE, THREE | SIGN, ZERO, MINUS_ZERO, INF, MINUS_INF, LEAST, GREATEST | SIGN, GREATEST_SUBNORMAL, NAN):
            self.by_modes([a], [[a, 0]] * 5)
        self.by_modes([QUIET], [[NAN, 0]] * 5)
        self.by_modes([SIGNALING], [[NAN, NV]] * 5)

    def test_small_numbers(self):
        self.by_modes([quad(1), quad(2), quad(3), quad(-10)], [[quad(-4), 0]] * 5)
        self.by_modes([HALF, HALF, quad(1, -2)], [[quad(5, -2), 0]] * 5)

    def test_64_and_65(self):
        self.assertEqual(row_sum([ONE] * 64), [quad(64), 0])
        self.assertEqual(row_sum([quad(n) for n in range(64)]), [quad(63 * 32), 0])
        self.assertEqual(dot([quad(n) for n in range(64)], [TWO] * 64), [quad(63 * 64), 0])
        for size in (65, 66, 128, 200):
            for a in (ONE, ZERO, NAN, SIGNALING):
                self.assertEqual(row_sum([a] * size), REFUSED)
                self.assertEqual(dot([a] * size, [a] * size), REFUSED)
        for size in range(65):
            self.assertEqual(row_sum([THREE] * size), [quad(3 * size), 0])

    def test_terms_that_cancel(self):
        self.by_modes([GREATEST, GREATEST, LEAST, GREATEST | SIGN, GREATEST | SIGN], [[LEAST, 0]] * 5)
        self.by_modes([power(200), ONE, power(200) | SIGN], [[ONE, 0]] * 5)
        self.by_modes([power(16383), power(100), LEAST | SIGN, power(16383) | SIGN, power(100) | SIGN],
                      [[LEAST | SIGN, 0]] * 5)
        self.by_modes([ONE, quad(-1)], [[ZERO, 0], [ZERO, 0], [MINUS_ZERO, 0], [ZERO, 0], [ZERO, 0]])
        self.by_modes([GREATEST, MINUS_ZERO, GREATEST | SIGN], [[bits, 0] for bits in (0, 0, SIGN, 0, 0)])
        self.by_modes([ONE, THREE, quad(-4), ZERO], [[bits, 0] for bits in (0, 0, SIGN, 0, 0)])

    def test_far_apart(self):
        self.by_modes([ONE, LEAST], [[ONE + up, NX] for up in (0, 0, 0, 1, 0)])
        self.by_modes([ONE, LEAST | SIGN], [[ONE - down, NX] for down in (0, 1, 1, 0, 0)])
        self.by_modes([quad(-1), LEAST], [[quad(-1) - inward, NX] for inward in (0, 1, 0, 1, 0)])
        # A tie, and one that the least number breaks.
        self.by_modes([ONE, power(-113)], [[ONE + up, NX] for up in (0, 0, 0, 1, 1)])
        self.by_modes([ONE, power(-113), LEAST], [[ONE + up, NX] for up in (1, 0, 0, 1, 1)])
        self.by_modes([ONE, power(-113), LEAST | SIGN], [[ONE + up, NX] for up in (0, 0, 0, 1, 0)])
        self.by_modes([ONE, power(-113), LEAST, LEAST | SIGN], [[ONE + up, NX] for up in (0, 0, 0, 1, 1)])

    def test_overflow_of_the_sum_alone(self):
        self.by_modes([GREATEST, GREATEST], [[bits, OF + NX] for bits in (INF, GREATEST, GREATEST, INF, INF)])
        self.by_modes([GREATEST | SIGN] * 3, [[bits | SIGN, OF + NX] for bits in (INF, GREATEST, INF, GREATEST, INF)])
        self.by_modes([GREATEST, GREATEST, GREATEST | SIGN], [[GREATEST, 0]] * 5)
        half = power(16383 - 113)
        self.by_modes([GREATEST, half], [[INF, OF + NX], [GREATEST, NX], [GREATEST, NX], [INF, OF + NX], [INF, OF + NX]])
        self.by_modes([GREATEST, half, LEAST | SIGN],
                      [[GREATEST, NX], [GREATEST, NX], [GREATEST, NX], [INF, OF + NX], [GREATEST, NX]])

    def test_subnormal_sums_are_exact(self):
        self.by_modes([LEAST_NORMAL, LEAST | SIGN], [[GREATEST_SUBNORMAL, 0]] * 5)
        self.by_modes([GREATEST_SUBNORMAL, LEAST], [[LEAST_NORMAL, 0]] * 5)
        self.by_modes([LEAST] * 5, [[5, 0]] * 5)

    def test_zeros(self):
        for size in (1, 2, 3, 64):
            self.by_modes([ZERO] * size, [[ZERO, 0]] * 5)
            self.by_modes([MINUS_ZERO] * size, [[MINUS_ZERO, 0]] * 5)
        mixed = [[bits, 0] for bits in (ZERO, ZERO, MINUS_ZERO, ZERO, ZERO)]
        self.by_modes([ZERO, MINUS_ZERO], mixed)
        self.by_modes([MINUS_ZERO, MINUS_ZERO, ZERO], mixed)
        self.by_modes([MINUS_ZERO, LEAST, LEAST | SIGN], mixed)
        self.by_modes([ZERO, LEAST, LEAST | SIGN], mixed)
        self.by_modes([MINUS_ZERO, ONE], [[ONE, 0]] * 5)

    def test_infinities(self):
        for inf in (INF, MINUS_INF):
            for others in ([ONE], [GREATEST | SIGN, GREATEST], [ZERO, MINUS_ZERO], [inf], [GREATEST, GREATEST]):
                self.by_modes([inf] + others, [[inf, 0]] * 5)
        self.by_modes([INF, MINUS_INF], [[NAN, NV]] * 5)
        self.by_modes([INF, ONE, INF, ZERO, MINUS_INF], [[NAN, NV]] * 5)

    def test_not_numbers(self):
        for others in ([], [ONE], [INF], [MINUS_INF, MINUS_INF], [ZERO], [GREATEST, GREATEST], [NAN]):
            self.by_modes([QUIET] + others, [[NAN, 0]] * 5)
            self.by_modes([SIGNALING] + others, [[NAN, NV]] * 5)
            self.by_modes([QUIET, SIGNALING_TOO] + others, [[NAN, NV]] * 5)
        # Infinities of both signs raise NV beside a quiet NaN too.
        self.by_modes([QUIET, INF, MINUS_INF], [[NAN, NV]] * 5)
        self.by_modes([INF, QUIET, MINUS_INF], [[NAN, NV]] * 5)

    def test_modes(self):
        for row in ([], [ONE], [NAN]):
            for mode in (5, 2**32 - 1):
                self.assertEqual(row_sum(row, mode), REFUSED)
                self.assertEqual(dot(row, row, mode), REFUSED)
                self.assertEqual(poly(ONE, row, mode), REFUSED)

    def test_any_order(self):
        source = random.Random("orders")
        row = [source.getrandbits(1) << 127 | source.randrange(32767) << 112 | source.getrandbits(112) for turn in range(64)]
        row = row[:40] + [bits ^ SIGN for bits in row[:20]] + row[40:44]
        found = [row_sum(row, mode) for mode in MODES]
        for turn in range(20):
            source.shuffle(row)
            self.assertEqual([row_sum(row, mode) for mode in MODES], found)


class Dot(unittest.TestCase):
    def by_modes(self, row, other, found):
        self.assertEqual([dot(row, other, mode) for mode in MODES], found)
        self.assertEqual([dot(other, row, mode) for mode in MODES], found)
        self.assertEqual([dot(row[::-1], other[::-1], mode) for mode in MODES], found)

    def test_small_numbers(self):
        self.by_modes([ONE, TWO, THREE], [THREE, TWO | SIGN, TWO], [[quad(5), 0]] * 5)
        self.by_modes([], [], [[ZERO, 0]] * 5)

    def test_products_are_exact(self):
        # (1 + u)^2 - 1 - 2 u is u^2, which one rounded product would lose.
        self.by_modes([ONE + 1, quad(-1), power(-111)], [ONE + 1, ONE, quad(-1)], [[power(-224), 0]] * 5)
        # Products far above the greatest number and far below the least one.
        self.by_modes([GREATEST, GREATEST, ONE], [GREATEST, GREATEST | SIGN, THREE], [[THREE, 0]] * 5)
        self.by_modes([LEAST, LEAST, LEAST], [LEAST, LEAST | SIGN, ONE], [[LEAST, 0]] * 5)
        self.by_modes([power(16383), power(16383)], [power(-16494), power(-16494) | SIGN],
                      [[bits, 0] for bits in (0, 0, SIGN, 0, 0)])
        self.by_modes([LEAST] * 4, [power(-2)] * 4, [[LEAST, 0]] * 5)
        self.by_modes([GREATEST] * 2, [HALF] * 2, [[GREATEST, 0]] * 5)

    def test_far_below(self):
        under = [[bits, NX + UF] for bits in (ZERO, ZERO, ZERO, LEAST, ZERO)]
        self.by_modes([LEAST], [LEAST], under)
        self.by_modes([LEAST, LEAST], [LEAST, LEAST], under)
        self.by_modes([LEAST], [LEAST | SIGN], [[bits | SIGN, NX + UF] for bits in (ZERO, ZERO, LEAST, ZERO, ZERO)])
        self.by_modes([LEAST], [HALF], [[bits, NX + UF] for bits in (0, 0, 0, 1, 1)])
        self.by_modes([LEAST, LEAST], [HALF, LEAST], [[bits, NX + UF] for bits in (1, 0, 0, 1, 1)])
        self.by_modes([LEAST, LEAST], [HALF, LEAST | SIGN], [[bits, NX + UF] for bits in (0, 0, 0, 1, 0)])
        self.by_modes([ONE, LEAST], [ONE, LEAST], [[ONE + up, NX] for up in (0, 0, 0, 1, 0)])

    def test_just_below_the_least_normal_number(self):
        # A quarter of a step below it: not tiny but by the modes that lead down.
        row, other = [LEAST_NORMAL, LEAST], [ONE, power(-2) | SIGN]
        self.by_modes(row, other, [[LEAST_NORMAL, NX], [GREATEST_SUBNORMAL, NX + UF], [GREATEST_SUBNORMAL, NX + UF],
                                   [LEAST_NORMAL, NX], [LEAST_NORMAL, NX]])
        # Half of a step below it: tiny.
        self.by_modes([LEAST_NORMAL, LEAST], [ONE, HALF | SIGN],
                      [[bits, NX + UF] for bits in (LEAST_NORMAL, GREATEST_SUBNORMAL, GREATEST_SUBNORMAL, LEAST_NORMAL,
                                                    LEAST_NORMAL)])

    def test_overflow(self):
        over = [[bits, OF + NX] for bits in (INF, GREATEST, GREATEST, INF, INF)]
        self.by_modes([GREATEST], [GREATEST], over)
        self.by_modes([GREATEST, LEAST], [TWO, LEAST | SIGN], over)
        self.by_modes([GREATEST], [quad(-2)], [[bits | SIGN, OF + NX] for bits in (INF, GREATEST, INF, GREATEST, INF)])

    def test_zeros(self):
        self.by_modes([ZERO], [THREE], [[ZERO, 0]] * 5)
        self.by_modes([ZERO], [quad(-3)], [[MINUS_ZERO, 0]] * 5)
        self.by_modes([MINUS_ZERO], [MINUS_ZERO], [[ZERO, 0]] * 5)
        self.by_modes([MINUS_ZERO, ZERO], [ONE, quad(-1)], [[MINUS_ZERO, 0]] * 5)
        self.by_modes([MINUS_ZERO, ZERO], [ONE, ONE], [[bits, 0] for bits in (0, 0, SIGN, 0, 0)])

    def test_an_infinity_by_a_zero(self):
        for inf in (INF, MINUS_INF):
            for zero in (ZERO, MINUS_ZERO):
                for more in (ONE, INF, QUIET, SIGNALING):
                    self.by_modes([inf, more], [zero, ONE], [[NAN, NV]] * 5)

    def test_infinities(self):
        self.by_modes([INF, ONE], [THREE, THREE], [[INF, 0]] * 5)
        self.by_modes([INF, ONE], [quad(-3), INF], [[NAN, NV]] * 5)
        self.by_modes([MINUS_INF, ONE], [quad(-3), INF], [[INF, 0]] * 5)
        self.by_modes([MINUS_INF], [INF], [[MINUS_INF, 0]] * 5)
        self.by_modes([GREATEST, GREATEST], [GREATEST, MINUS_INF], [[MINUS_INF, 0]] * 5)

    def test_not_numbers(self):
        for other in (ONE, ZERO, INF, MINUS_INF, QUIET):
            self.by_modes([QUIET, ONE], [other, ONE], [[NAN, 0]] * 5)
            self.by_modes([SIGNALING, ONE], [other, ONE], [[NAN, NV]] * 5)
            self.by_modes([ONE, QUIET], [ONE, SIGNALING], [[NAN, NV]] * 5)
        # A product of a quiet NaN and an infinity is no infinite term.
        self.by_modes([QUIET, INF], [MINUS_INF, ONE], [[NAN, 0]] * 5)
        self.by_modes([QUIET, INF, INF], [ONE, ONE, quad(-1)], [[NAN, NV]] * 5)

    def test_rows_unlike_in_length(self):
        for size, other in ((0, 1), (1, 0), (1, 2), (3, 2), (64, 63), (63, 64), (64, 65), (65, 64), (65, 65), (0, 200),
                            (200, 200), (200, 0)):
            for a in (ONE, ZERO, SIGNALING):
                self.assertEqual(dot([a] * size, [a] * other), REFUSED)


class Poly(unittest.TestCase):
    def by_modes(self, x, row, found):
        self.assertEqual([poly(x, row, mode) for mode in MODES], found)

    def test_none_and_one(self):
        for x in (ONE, ZERO, INF, NAN, SIGNALING):
            self.by_modes(x, [], [[ZERO, 0]] * 5)
            # One is the answer bit for bit, and nothing is raised.
            for a in (ONE, MINUS_ZERO, LEAST | SIGN, MINUS_INF, QUIET, SIGNALING, SIGNALING_TOO, 2**128 - 1):
                self.by_modes(x, [a], [[a, 0]] * 5)

    def test_small_numbers(self):
        # 1 + 2 x + 3 x^2 at 2, -1 and a half.
        row = [ONE, TWO, THREE]
        self.by_modes(TWO, row, [[quad(17), 0]] * 5)
        self.by_modes(quad(-1), row, [[TWO, 0]] * 5)
        self.by_modes(HALF, row, [[quad(11, -2), 0]] * 5)
        self.by_modes(ZERO, row, [[ONE, 0]] * 5)

    def test_64_and_65(self):
        self.by_modes(ONE, [ONE] * 64, [[quad(64), 0]] * 5)
        self.by_modes(TWO, [ONE] * 64, [[quad(2**64 - 1), 0]] * 5)
        self.by_modes(TWO, [ZERO] * 63 + [ONE], [[power(63), 0]] * 5)
        for size in (65, 200):
            for a in (ONE, ZERO, SIGNALING):
                self.assertEqual(poly(ONE, [a] * size), REFUSED)

    def test_each_step_is_fused_and_rounded(self):
        # The product by itself would be rounded, fused it is not: (1 + u)(1 + u) - (1 + 2 u) is u^2.
        self.by_modes(ONE + 1, [(ONE + 2) | SIGN, ONE + 1], [[power(-224), 0]] * 5)
        # y x + 1 with y x = 2^-113: a tie in the first step, whose answer the second one multiplies.
        self.by_modes(power(-113), [ZERO, ONE, ONE], [[power(-113) + up, NX] for up in (0, 0, 0, 1, 1)])

    def test_the_flags_of_all_steps(self):
        # The first step overflows, to an infinity that meets the other one in the second, or to the greatest number.
        self.assertEqual(poly(GREATEST, [ONE, ONE, GREATEST]), [INF, OF + NX])
        self.assertEqual(poly(GREATEST, [MINUS_INF, ONE, GREATEST]), [NAN, OF + NX + NV])
        self.assertEqual(poly(GREATEST, [MINUS_INF, ONE, GREATEST], 1), [MINUS_INF, OF + NX])
        # The first step underflows to a zero, the second is exact.
        self.assertEqual(poly(LEAST, [ONE, ZERO, LEAST]), [ONE, NX + UF])
        self.assertEqual(poly(LEAST, [ONE, ZERO, LEAST], 3), [ONE + 1, NX + UF])
        # Inexact only in the first step.
        self.assertEqual(poly(ZERO, [ONE, THREE, TWO]), [ONE, 0])
        self.assertEqual(poly(ONE, [quad(-1), LEAST, ONE]), [ZERO, NX])
        self.assertEqual(poly(ONE, [quad(-1), LEAST, ONE], 2), [MINUS_ZERO, NX])

    def test_infinities_and_zeros(self):
        self.by_modes(ZERO, [ONE, INF], [[NAN, NV]] * 5)
        self.by_modes(INF, [ONE, ZERO], [[NAN, NV]] * 5)
        self.by_modes(INF, [QUIET, ZERO], [[NAN, NV]] * 5)
        self.by_modes(INF, [ONE, ONE], [[INF, 0]] * 5)
        self.by_modes(INF, [MINUS_INF, ONE], [[NAN, NV]] * 5)
        self.by_modes(MINUS_INF, [ONE, ONE, ONE], [[INF, 0]] * 5)
        self.by_modes(ONE, [MINUS_ZERO, MINUS_ZERO], [[MINUS_ZERO, 0]] * 5)
        self.by_modes(ONE, [ZERO, MINUS_ZERO], [[bits, 0] for bits in (0, 0, SIGN, 0, 0)])

    def test_not_numbers(self):
        self.by_modes(QUIET, [ONE, ONE], [[NAN, 0]] * 5)
        self.by_modes(SIGNALING, [ONE, ONE], [[NAN, NV]] * 5)
        self.by_modes(ONE, [ONE, QUIET], [[NAN, 0]] * 5)
        self.by_modes(ONE, [ONE, SIGNALING], [[NAN, NV]] * 5)
        self.by_modes(ONE, [SIGNALING, ONE], [[NAN, NV]] * 5)
        self.by_modes(ONE, [SIGNALING_TOO, ONE, QUIET], [[NAN, NV]] * 5)


if __name__ == "__main__":
    unittest.main()
