"""Calls 1 and 2: root and fused."""

import unittest

from known import (GREATEST, GREATEST_SUBNORMAL, HALF, INF, LEAST, LEAST_NORMAL, MINUS_INF, MINUS_ZERO, MODES, NAN, NV,
                   NX, OF, ONE, QUIET, SIGN, SIGNALING, SIGNALING_TOO, THREE, TWO, UF, ZERO, ask, power)


class Root(unittest.TestCase):
    def by_modes(self, a):
        return [ask(1, a, mode) for mode in MODES]

    def test_squares_raise_nothing(self):
        for a, found in ((ONE, ONE), (power(2), TWO), (power(-16494), power(-8247)), (power(16382), power(8191)),
                         ((0x4002 << 112) | (1 << 109), THREE), (ZERO, ZERO), (MINUS_ZERO, MINUS_ZERO), (INF, INF)):
            self.assertEqual(self.by_modes(a), [[found, 0]] * 5)

    def test_root_of_two(self):
        low = 0x3FFF6A09E667F3BCC908B2FB1366EA95
        self.assertEqual(self.by_modes(TWO), [[low, NX], [low, NX], [low, NX], [low + 1, NX], [low, NX]])

    def test_beside_a_square(self):
        self.assertEqual(self.by_modes(ONE + 1), [[ONE, NX], [ONE, NX], [ONE, NX], [ONE + 1, NX], [ONE, NX]])
        self.assertEqual(self.by_modes(ONE - 1), [[ONE - 1, NX], [ONE - 1, NX], [ONE - 1, NX], [ONE, NX], [ONE - 1, NX]])

    def test_greatest(self):
        found = power(8192) - 1
        self.assertEqual(self.by_modes(GREATEST), [[found, NX]] * 3 + [[power(8192), NX], [found, NX]])

    def test_subnormal_numbers_lose_nothing_more(self):
        self.assertEqual(ask(1, 2, 1), [power(-8247) + 0x6A09E667F3BCC908B2FB1366EA95, NX])

    def test_below_zero(self):
        for a in (LEAST | SIGN, ONE | SIGN, GREATEST | SIGN, MINUS_INF):
            self.assertEqual(self.by_modes(a), [[NAN, NV]] * 5)

    def test_not_numbers(self):
        self.assertEqual(self.by_modes(QUIET), [[NAN, 0]] * 5)
        self.assertEqual(self.by_modes(SIGNALING), [[NAN, NV]] * 5)
        self.assertEqual(self.by_modes(SIGNALING_TOO), [[NAN, NV]] * 5)


class Fused(unittest.TestCase):
    def by_modes(self, *numbers):
        return [ask(2, *numbers, mode) for mode in MODES]

    def test_how_turns_signs(self):
        five = (0x4001 << 112) | (1 << 110)
        for how, found in ((0, power(2) | 3 << 110), (1, five | SIGN), (2, five), (3, power(2) | SIGN | 3 << 110)):
            self.assertEqual(self.by_modes(TWO, THREE, ONE, how), [[found, 0]] * 5)

    def test_the_product_is_exact(self):
        # (1 + u)(1 - u) - 1 = -u^2, with u = 2^-112.
        self.assertEqual(self.by_modes(ONE + 1, ONE - 2, ONE, 2), [[power(-224) | SIGN, 0]] * 5)

    def test_rounded_once(self):
        # The product is 2^-113 (1 + 2^-113 - 2^-225): rounded by itself it would make the sum a tie, and 1 by mode 0.
        a, b = ONE + 1, power(-113) - 1
        self.assertEqual(self.by_modes(a, b, ONE, 0), [[ONE + 1, NX], [ONE, NX], [ONE, NX], [ONE + 1, NX], [ONE + 1, NX]])
        self.assertEqual(ask(2, power(-150), power(-150), ONE | 1, 0, 3), [ONE + 2, NX])
        self.assertEqual(ask(2, power(-150), power(-150), ONE, 1, 1), [ONE - 1, NX])

    def test_products_beyond_the_format(self):
        self.assertEqual(self.by_modes(GREATEST, TWO, GREATEST, 2), [[GREATEST, 0]] * 5)
        self.assertEqual(self.by_modes(LEAST, LEAST, ZERO, 0),
                         [[ZERO, NX + UF]] * 3 + [[LEAST, NX + UF], [ZERO, NX + UF]])
        self.assertEqual(self.by_modes(GREATEST, GREATEST, GREATEST, 1),
                         [[bits | SIGN, OF + NX] for bits in (INF, GREATEST, INF, GREATEST, INF)])

    def test_zero_sums(self):
        for mode in MODES:
            mixed = MINUS_ZERO if mode == 2 else ZERO
            self.assertEqual(ask(2, ZERO, ONE, ZERO, 0, mode), [ZERO, 0])
            self.assertEqual(ask(2, ZERO, ONE | SIGN, MINUS_ZERO, 0, mode), [MINUS_ZERO, 0])
            self.assertEqual(ask(2, ZERO, ONE | SIGN, ZERO, 0, mode), [mixed, 0])
            self.assertEqual(ask(2, ZERO, ONE, ZERO, 3, mode), [MINUS_ZERO, 0])
            self.assertEqual(ask(2, ZERO, ONE, ZERO, 1, mode), [mixed, 0])
            self.assertEqual(ask(2, TWO, HALF, ONE, 2, mode), [mixed, 0])
            self.assertEqual(ask(2, ZERO, ONE, LEAST, 2, mode), [LEAST | SIGN, 0])
            self.assertEqual(ask(2, THREE, ONE, MINUS_ZERO, 0, mode), [THREE, 0])

    def test_infinities(self):
        for mode in MODES:
            self.assertEqual(ask(2, INF, ZERO, ONE, 0, mode), [NAN, NV])
            self.assertEqual(ask(2, MINUS_ZERO, INF, INF, 0, mode), [NAN, NV])
            self.assertEqual(ask(2, INF, ONE, MINUS_INF, 0, mode), [NAN, NV])
            self.assertEqual(ask(2, INF, ONE, MINUS_INF, 2, mode), [INF, 0])
            self.assertEqual(ask(2, INF, ONE, INF, 1, mode), [NAN, NV])
            self.assertEqual(ask(2, INF, ONE, INF, 3, mode), [MINUS_INF, 0])
            self.assertEqual(ask(2, INF, ONE | SIGN, GREATEST, 0, mode), [MINUS_INF, 0])
            self.assertEqual(ask(2, GREATEST, GREATEST, MINUS_INF, 0, mode), [MINUS_INF, 0])
            self.assertEqual(ask(2, ZERO, ONE, INF, 2, mode), [MINUS_INF, 0])

    def test_not_numbers(self):
        for how in range(4):
            for numbers in ((QUIET, ONE, ONE), (ONE, QUIET, INF), (ZERO, ONE, QUIET), (INF, QUIET, ZERO)):
                self.assertEqual(self.by_modes(*numbers, how), [[NAN, 0]] * 5)
            for numbers in ((SIGNALING, ONE, ONE), (QUIET, SIGNALING_TOO, INF), (ZERO, ONE, SIGNALING),
                            (INF, ZERO, QUIET), (MINUS_ZERO, INF, QUIET), (INF, ZERO, SIGNALING)):
                self.assertEqual(self.by_modes(*numbers, how), [[NAN, NV]] * 5)

    def test_overflow_half_a_step_above_the_greatest(self):
        half_step = power(16383 - 113)
        self.assertEqual(self.by_modes(half_step, ONE, GREATEST, 0),
                         [[INF, OF + NX], [GREATEST, NX], [GREATEST, NX], [INF, OF + NX], [INF, OF + NX]])


class Tiny(unittest.TestCase):
    """2^-16382 less a b, by each mode: the sum is tiny or not as the fine grid's rounding leads."""

    def below(self, a, b):
        return [ask(2, a, b, LEAST_NORMAL, 1, mode) for mode in MODES]

    def test_half_a_fine_step_below(self):
        least, under = LEAST_NORMAL, GREATEST_SUBNORMAL
        self.assertEqual(self.below(power(-8248), power(-8248)),
                         [[least, NX], [under, NX + UF], [under, NX + UF], [least, NX], [least, NX]])

    def test_more_than_half_a_fine_step_below(self):
        least, under = LEAST_NORMAL, GREATEST_SUBNORMAL
        self.assertEqual(self.below(power(-8248), power(-8248) + 1),
                         [[least, NX + UF], [under, NX + UF], [under, NX + UF], [least, NX], [least, NX + UF]])

    def test_less_than_half_a_fine_step_below(self):
        least, under = LEAST_NORMAL, GREATEST_SUBNORMAL
        self.assertEqual(self.below(power(-8248), power(-8248) - 1),
                         [[least, NX], [under, NX + UF], [under, NX + UF], [least, NX], [least, NX]])

    def test_a_fine_step_below(self):
        least, under = LEAST_NORMAL, GREATEST_SUBNORMAL
        self.assertEqual(self.below(power(-8248), power(-8247)),
                         [[least, NX + UF], [under, NX + UF], [under, NX + UF], [least, NX + UF], [least, NX + UF]])

    def test_a_step_below(self):
        self.assertEqual(self.below(power(-8247), power(-8247)), [[GREATEST_SUBNORMAL, 0]] * 5)

    def test_negative_numbers_in_the_mirror(self):
        found = [ask(2, power(-8248), power(-8248), LEAST_NORMAL | SIGN, 0, mode) for mode in MODES]
        least, under = LEAST_NORMAL | SIGN, GREATEST_SUBNORMAL | SIGN
        self.assertEqual(found, [[least, NX], [under, NX + UF], [least, NX], [under, NX + UF], [least, NX]])


if __name__ == "__main__":
    unittest.main()
