"""Call 0, op: sums, differences, products, quotients."""

import unittest

from known import (DZ, GREATEST, GREATEST_SUBNORMAL, HALF, INF, LEAST, LEAST_NORMAL, MINUS_INF, MINUS_ZERO, MODES, NAN,
                   NV, NX, OF, ONE, QUIET, SIGN, SIGNALING, SIGNALING_TOO, THREE, TWO, UF, ZERO, ask, power)

ADD, SUBTRACT, MULTIPLY, DIVIDE = range(4)


def by_modes(*numbers):
    """What op answers by the modes 0 to 4."""
    return [ask(0, *numbers, mode) for mode in MODES]


class Ordinary(unittest.TestCase):
    def test_exact_results_raise_nothing(self):
        for mode in MODES:
            self.assertEqual(ask(0, ADD, ONE, TWO, mode), [THREE, 0])
            self.assertEqual(ask(0, SUBTRACT, ONE, THREE, mode), [TWO | SIGN, 0])
            self.assertEqual(ask(0, MULTIPLY, THREE | SIGN, HALF, mode), [ONE | SIGN | 1 << 111, 0])
            self.assertEqual(ask(0, DIVIDE, THREE, TWO, mode), [ONE | 1 << 111, 0])
            self.assertEqual(ask(0, ADD, GREATEST_SUBNORMAL, LEAST, mode), [LEAST_NORMAL, 0])
            self.assertEqual(ask(0, SUBTRACT, LEAST_NORMAL, LEAST, mode), [GREATEST_SUBNORMAL, 0])
            self.assertEqual(ask(0, SUBTRACT, ONE, ONE - 1, mode), [power(-113), 0])
            self.assertEqual(ask(0, DIVIDE, power(-16494), power(16383), mode)[1] & NX, NX)

    def test_ties(self):
        tie = power(-113)
        self.assertEqual(by_modes(ADD, ONE, tie), [[ONE, NX], [ONE, NX], [ONE, NX], [ONE + 1, NX], [ONE + 1, NX]])
        odd = ONE + 1
        self.assertEqual(by_modes(ADD, odd, tie), [[odd + 1, NX], [odd, NX], [odd, NX], [odd + 1, NX], [odd + 1, NX]])
        self.assertEqual(by_modes(SUBTRACT, ONE | SIGN, tie),
                         [[bits | SIGN, NX] for bits in (ONE, ONE, ONE + 1, ONE, ONE + 1)])

    def test_beside_a_tie(self):
        below, above = power(-113) - 1, power(-113) + 1
        self.assertEqual(by_modes(ADD, ONE, below), [[ONE, NX], [ONE, NX], [ONE, NX], [ONE + 1, NX], [ONE, NX]])
        self.assertEqual(by_modes(ADD, ONE, above), [[ONE + 1, NX], [ONE, NX], [ONE, NX], [ONE + 1, NX], [ONE + 1, NX]])

    def test_far_apart_numbers_still_count(self):
        self.assertEqual(by_modes(ADD, GREATEST, LEAST),
                         [[GREATEST, NX], [GREATEST, NX], [GREATEST, NX], [INF, OF + NX], [GREATEST, NX]])
        self.assertEqual(by_modes(SUBTRACT, ONE, LEAST), [[ONE, NX], [ONE - 1, NX], [ONE - 1, NX], [ONE, NX], [ONE, NX]])

    def test_thirds(self):
        low = (0x3FFD << 112) + int("5" * 28, 16)
        self.assertEqual(by_modes(DIVIDE, ONE, THREE), [[low, NX], [low, NX], [low, NX], [low + 1, NX], [low, NX]])
        self.assertEqual(by_modes(DIVIDE, TWO | SIGN, THREE),
                         [[bits + (1 << 112) | SIGN, NX] for bits in (low, low, low + 1, low, low)])

    def test_product_beside_a_rounding_point(self):
        # (1 + u)^2 = 1 + 2 u + u^2 with the last far below the grid.
        a = ONE + 1
        self.assertEqual(by_modes(MULTIPLY, a, a),
                         [[ONE + 2, NX], [ONE + 2, NX], [ONE + 2, NX], [ONE + 3, NX], [ONE + 2, NX]])


class Zeros(unittest.TestCase):
    def test_zero_sums(self):
        for mode in MODES:
            mixed = MINUS_ZERO if mode == 2 else ZERO
            self.assertEqual(ask(0, ADD, ZERO, ZERO, mode), [ZERO, 0])
            self.assertEqual(ask(0, ADD, MINUS_ZERO, MINUS_ZERO, mode), [MINUS_ZERO, 0])
            self.assertEqual(ask(0, ADD, ZERO, MINUS_ZERO, mode), [mixed, 0])
            self.assertEqual(ask(0, ADD, MINUS_ZERO, ZERO, mode), [mixed, 0])
            self.assertEqual(ask(0, SUBTRACT, ZERO, MINUS_ZERO, mode), [ZERO, 0])
            self.assertEqual(ask(0, SUBTRACT, MINUS_ZERO, ZERO, mode), [MINUS_ZERO, 0])
            self.assertEqual(ask(0, SUBTRACT, ZERO, ZERO, mode), [mixed, 0])
            self.assertEqual(ask(0, SUBTRACT, MINUS_ZERO, MINUS_ZERO, mode), [mixed, 0])
            self.assertEqual(ask(0, ADD, ONE, ONE | SIGN, mode), [mixed, 0])
            self.assertEqual(ask(0, SUBTRACT, LEAST | SIGN, LEAST | SIGN, mode), [mixed, 0])
            self.assertEqual(ask(0, ADD, MINUS_ZERO, LEAST, mode), [LEAST, 0])

    def test_zero_products_and_quotients(self):
        for mode in MODES:
            self.assertEqual(ask(0, MULTIPLY, ZERO, ONE | SIGN, mode), [MINUS_ZERO, 0])
            self.assertEqual(ask(0, MULTIPLY, MINUS_ZERO, GREATEST | SIGN, mode), [ZERO, 0])
            self.assertEqual(ask(0, DIVIDE, MINUS_ZERO, ONE, mode), [MINUS_ZERO, 0])
            self.assertEqual(ask(0, DIVIDE, MINUS_ZERO, MINUS_INF, mode), [ZERO, 0])
            self.assertEqual(ask(0, DIVIDE, ONE, MINUS_INF, mode), [MINUS_ZERO, 0])


class Infinities(unittest.TestCase):
    def test_sums(self):
        for mode in MODES:
            self.assertEqual(ask(0, ADD, INF, MINUS_INF, mode), [NAN, NV])
            self.assertEqual(ask(0, SUBTRACT, MINUS_INF, MINUS_INF, mode), [NAN, NV])
            self.assertEqual(ask(0, ADD, INF, INF, mode), [INF, 0])
            self.assertEqual(ask(0, SUBTRACT, INF, MINUS_INF, mode), [INF, 0])
            self.assertEqual(ask(0, SUBTRACT, ONE, INF, mode), [MINUS_INF, 0])
            self.assertEqual(ask(0, ADD, MINUS_INF, GREATEST, mode), [MINUS_INF, 0])

    def test_products_and_quotients(self):
        for mode in MODES:
            self.assertEqual(ask(0, MULTIPLY, INF, MINUS_ZERO, mode), [NAN, NV])
            self.assertEqual(ask(0, MULTIPLY, ZERO, MINUS_INF, mode), [NAN, NV])
            self.assertEqual(ask(0, MULTIPLY, INF, LEAST | SIGN, mode), [MINUS_INF, 0])
            self.assertEqual(ask(0, MULTIPLY, MINUS_INF, MINUS_INF, mode), [INF, 0])
            self.assertEqual(ask(0, DIVIDE, INF, MINUS_INF, mode), [NAN, NV])
            self.assertEqual(ask(0, DIVIDE, ZERO, MINUS_ZERO, mode), [NAN, NV])
            self.assertEqual(ask(0, DIVIDE, ONE, MINUS_ZERO, mode), [MINUS_INF, DZ])
            self.assertEqual(ask(0, DIVIDE, LEAST | SIGN, MINUS_ZERO, mode), [INF, DZ])
            self.assertEqual(ask(0, DIVIDE, INF, MINUS_ZERO, mode), [MINUS_INF, 0])
            self.assertEqual(ask(0, DIVIDE, MINUS_INF, GREATEST, mode), [MINUS_INF, 0])


class NotNumbers(unittest.TestCase):
    def test_every_operation(self):
        for which in range(4):
            for mode in MODES:
                for other in (ONE, ZERO, INF, QUIET):
                    self.assertEqual(ask(0, which, QUIET, other, mode), [NAN, 0])
                    self.assertEqual(ask(0, which, other, QUIET, mode), [NAN, 0])
                    self.assertEqual(ask(0, which, SIGNALING, other, mode), [NAN, NV])
                    self.assertEqual(ask(0, which, other, SIGNALING_TOO, mode), [NAN, NV])


class Overflow(unittest.TestCase):
    def test_each_mode_and_sign(self):
        for which, a, b in ((ADD, GREATEST, GREATEST), (MULTIPLY, GREATEST, TWO), (DIVIDE, GREATEST, HALF)):
            self.assertEqual(by_modes(which, a, b),
                             [[bits, OF + NX] for bits in (INF, GREATEST, GREATEST, INF, INF)])
            minus = b | SIGN if which == ADD else b
            self.assertEqual(by_modes(which, a | SIGN, minus),
                             [[bits | SIGN, OF + NX] for bits in (INF, GREATEST, INF, GREATEST, INF)])

    def test_an_exact_power_is_overflow_too(self):
        self.assertEqual(by_modes(MULTIPLY, power(16383), TWO),
                         [[bits, OF + NX] for bits in (INF, GREATEST, GREATEST, INF, INF)])

    def test_half_a_step_above_the_greatest(self):
        half_step = power(16383 - 113)
        self.assertEqual(by_modes(ADD, GREATEST, half_step),
                         [[INF, OF + NX], [GREATEST, NX], [GREATEST, NX], [INF, OF + NX], [INF, OF + NX]])
        self.assertEqual(by_modes(ADD, GREATEST, half_step - 1),
                         [[GREATEST, NX], [GREATEST, NX], [GREATEST, NX], [INF, OF + NX], [GREATEST, NX]])


class Underflow(unittest.TestCase):
    def test_exact_subnormal_results_raise_nothing(self):
        for mode in MODES:
            self.assertEqual(ask(0, DIVIDE, LEAST_NORMAL, TWO, mode), [1 << 111, 0])
            self.assertEqual(ask(0, MULTIPLY, power(-16000), power(-494), mode), [LEAST, 0])

    def test_half_of_the_least(self):
        lost = NX + UF
        self.assertEqual(by_modes(MULTIPLY, LEAST, HALF),
                         [[ZERO, lost], [ZERO, lost], [ZERO, lost], [LEAST, lost], [LEAST, lost]])
        self.assertEqual(by_modes(DIVIDE, LEAST | SIGN, TWO),
                         [[bits | SIGN, lost] for bits in (ZERO, ZERO, LEAST, ZERO, LEAST)])

    def test_far_below_the_least(self):
        lost = NX + UF
        self.assertEqual(by_modes(MULTIPLY, LEAST, LEAST),
                         [[ZERO, lost], [ZERO, lost], [ZERO, lost], [LEAST, lost], [ZERO, lost]])
        self.assertEqual(by_modes(MULTIPLY, LEAST | SIGN, LEAST),
                         [[bits | SIGN, lost] for bits in (ZERO, ZERO, LEAST, ZERO, ZERO)])

    def test_just_below_the_least_normal(self):
        # 2^-16382 (1 - 2^-113): one step of the fine grid below, so tiny by every mode.
        lost = NX + UF
        below = GREATEST_SUBNORMAL
        self.assertEqual(by_modes(MULTIPLY, LEAST_NORMAL, ONE - 1),
                         [[LEAST_NORMAL, lost], [below, lost], [below, lost], [LEAST_NORMAL, lost], [LEAST_NORMAL, lost]])

    def test_nearer_than_the_fine_grid(self):
        # 2^-16382 (1 - 2^-224), between the last point of the fine grid and 2^-16382 itself:
        # not tiny where the mode leads up to that.
        a, b = LEAST_NORMAL + 1, ONE - 2
        self.assertEqual(by_modes(MULTIPLY, a, b),
                         [[LEAST_NORMAL, NX], [GREATEST_SUBNORMAL, NX + UF], [GREATEST_SUBNORMAL, NX + UF],
                          [LEAST_NORMAL, NX], [LEAST_NORMAL, NX]])
        self.assertEqual(by_modes(MULTIPLY, a | SIGN, b),
                         [[LEAST_NORMAL | SIGN, NX], [GREATEST_SUBNORMAL | SIGN, NX + UF], [LEAST_NORMAL | SIGN, NX],
                          [GREATEST_SUBNORMAL | SIGN, NX + UF], [LEAST_NORMAL | SIGN, NX]])

    def test_just_above_the_least_normal(self):
        self.assertEqual(by_modes(MULTIPLY, LEAST_NORMAL + 1, ONE + 1),
                         [[LEAST_NORMAL + 2, NX]] * 3 + [[LEAST_NORMAL + 3, NX], [LEAST_NORMAL + 2, NX]])


if __name__ == "__main__":
    unittest.main()
