"""Calls 3 to 7: remainder, scale, whole, next and split."""

import unittest

from known import (GREATEST, GREATEST_SUBNORMAL, HALF, INF, LEAST, LEAST_NORMAL, MINUS_INF, MINUS_ZERO, MODES, NAN, NV,
                   NX, OF, ONE, QUIET, SIGN, SIGNALING, SIGNALING_TOO, THREE, TWO, UF, ZERO, ask, power)


def number(value):
    """The bits of a small whole number or half of one."""
    sign, size = (SIGN if value < 0 else 0), abs(int(value * 2))
    top = size.bit_length() - 1
    return sign | ((0x3FFF + top - 1) << 112) + (size << 112 - top) - (1 << 112) if size else 0


class Remainder(unittest.TestCase):
    def test_small_numbers(self):
        for a, b, nearest, toward_zero in ((5, 3, -1, 2), (-5, 3, 1, -2), (5, -3, -1, 2), (-5, -3, 1, -2), (7, 3, 1, 1),
                                           (3, 2, -1, 1), (1, 2, 1, 1), (5, 2, 1, 1), (7, 2, -1, 1), (-7, 2, 1, -1),
                                           (2.5, 1, .5, .5), (3.5, 1, -.5, .5), (1, 3, 1, 1), (2, 3, -1, 2)):
            self.assertEqual(ask(3, number(a), number(b), 0), [number(nearest), 0], (a, b))
            self.assertEqual(ask(3, number(a), number(b), 1), [number(toward_zero), 0], (a, b))

    def test_zeros_have_the_sign_of_a(self):
        for how in range(2):
            self.assertEqual(ask(3, number(6), number(-3), how), [ZERO, 0])
            self.assertEqual(ask(3, number(-6), number(3), how), [MINUS_ZERO, 0])
            self.assertEqual(ask(3, MINUS_ZERO, GREATEST, how), [MINUS_ZERO, 0])
            self.assertEqual(ask(3, ZERO, LEAST | SIGN, how), [ZERO, 0])

    def test_far_apart_exponents(self):
        for how in range(2):
            self.assertEqual(ask(3, GREATEST, LEAST, how), [ZERO, 0])
            self.assertEqual(ask(3, GREATEST | SIGN, LEAST, how), [MINUS_ZERO, 0])
            self.assertEqual(ask(3, LEAST | SIGN, GREATEST, how), [LEAST | SIGN, 0])
        # 2^16383 is 2 modulo 3, and 2^16382 is 1.
        self.assertEqual(ask(3, power(16383), THREE, 1), [TWO, 0])
        self.assertEqual(ask(3, power(16383), THREE, 0), [ONE | SIGN, 0])
        self.assertEqual(ask(3, power(16382), THREE, 0), [ONE, 0])
        # So 2^16383 counts 2^32877 least subnormal ones, which is 2 modulo 3 too.
        self.assertEqual(ask(3, power(16383), 3, 1), [2, 0])
        self.assertEqual(ask(3, power(16383), 3, 0), [LEAST | SIGN, 0])

    def test_ties_by_an_even_and_an_odd_number(self):
        self.assertEqual(ask(3, 1, 2, 0), [1, 0])
        self.assertEqual(ask(3, 3, 2, 0), [1 | SIGN, 0])
        self.assertEqual(ask(3, 3 | SIGN, 2, 0), [1, 0])
        self.assertEqual(ask(3, HALF, ONE, 0), [HALF, 0])
        self.assertEqual(ask(3, HALF + 1, ONE, 0), [(HALF - 2) | SIGN, 0])
        self.assertEqual(ask(3, HALF - 1, ONE, 0), [HALF - 1, 0])

    def test_infinities_and_zeros(self):
        for how in range(2):
            for a, b in ((INF, ONE), (MINUS_INF, INF), (INF, ZERO), (ONE, ZERO), (ZERO, MINUS_ZERO)):
                self.assertEqual(ask(3, a, b, how), [NAN, NV])
            for a in (ONE, GREATEST | SIGN, LEAST, ZERO, MINUS_ZERO):
                self.assertEqual(ask(3, a, INF, how), [a, 0])
                self.assertEqual(ask(3, a, MINUS_INF, how), [a, 0])

    def test_not_numbers(self):
        for how in range(2):
            for other in (ONE, ZERO, INF, QUIET):
                self.assertEqual(ask(3, QUIET, other, how), [NAN, 0])
                self.assertEqual(ask(3, other, QUIET, how), [NAN, 0])
                self.assertEqual(ask(3, SIGNALING, other, how), [NAN, NV])
                self.assertEqual(ask(3, other, SIGNALING_TOO, how), [NAN, NV])


class Scale(unittest.TestCase):
    def by_modes(self, a, n):
        return [ask(4, a, n, mode) for mode in MODES]

    def test_exact(self):
        for a, n, found in ((ONE, 5, power(5)), (THREE | SIGN, -1, (ONE | 1 << 111) | SIGN), (LEAST, 32877, power(16383)),
                            (power(16383), -32877, LEAST), (LEAST_NORMAL, -112, LEAST), (THREE, 0, THREE)):
            self.assertEqual(self.by_modes(a, n), [[found, 0]] * 5)

    def test_subnormal_ties(self):
        self.assertEqual(self.by_modes(3, -1), [[2, NX + UF], [1, NX + UF], [1, NX + UF], [2, NX + UF], [2, NX + UF]])
        self.assertEqual(self.by_modes(5, -1), [[2, NX + UF], [2, NX + UF], [2, NX + UF], [3, NX + UF], [3, NX + UF]])
        self.assertEqual(self.by_modes(5 | SIGN, -1),
                         [[bits | SIGN, NX + UF] for bits in (2, 2, 3, 2, 3)])
        self.assertEqual(self.by_modes(2 * LEAST_NORMAL - 1, -1),
                         [[bits, NX + UF] for bits in (LEAST_NORMAL, GREATEST_SUBNORMAL, GREATEST_SUBNORMAL,
                                                       LEAST_NORMAL, LEAST_NORMAL)])

    def test_the_ends(self):
        self.assertEqual(self.by_modes(GREATEST, -40000), [[bits, NX + UF] for bits in (0, 0, 0, 1, 0)])
        self.assertEqual(self.by_modes(LEAST | SIGN, -40000), [[bits | SIGN, NX + UF] for bits in (0, 0, 1, 0, 0)])
        self.assertEqual(self.by_modes(LEAST, 40000), [[bits, OF + NX] for bits in (INF, GREATEST, GREATEST, INF, INF)])
        self.assertEqual(self.by_modes(GREATEST | SIGN, 40000),
                         [[bits | SIGN, OF + NX] for bits in (INF, GREATEST, INF, GREATEST, INF)])

    def test_themselves(self):
        for n in (-40000, -1, 0, 1, 40000):
            for a in (ZERO, MINUS_ZERO, INF, MINUS_INF):
                self.assertEqual(self.by_modes(a, n), [[a, 0]] * 5)
            self.assertEqual(self.by_modes(QUIET, n), [[NAN, 0]] * 5)
            self.assertEqual(self.by_modes(SIGNALING, n), [[NAN, NV]] * 5)


class Whole(unittest.TestCase):
    def check(self, a, found, flags):
        self.assertEqual([ask(5, a, 1, mode) for mode in MODES], [[bits, flags] for bits in found])
        self.assertEqual([ask(5, a, 0, mode) for mode in MODES], [[bits, 0] for bits in found])

    def test_halves(self):
        self.check(number(2.5), [number(n) for n in (2, 2, 2, 3, 3)], NX)
        self.check(number(3.5), [number(n) for n in (4, 3, 3, 4, 4)], NX)
        self.check(number(-2.5), [number(n) for n in (-2, -2, -3, -2, -3)], NX)
        self.check(number(1.5) - 1, [number(n) for n in (1, 1, 1, 2, 1)], NX)
        self.check(number(1.5) + 1, [number(n) for n in (2, 1, 1, 2, 2)], NX)

    def test_zeros_have_the_sign_of_a(self):
        self.check(HALF, [ZERO, ZERO, ZERO, ONE, ONE], NX)
        self.check(HALF | SIGN, [MINUS_ZERO, MINUS_ZERO, ONE | SIGN, MINUS_ZERO, ONE | SIGN], NX)
        self.check(LEAST, [ZERO, ZERO, ZERO, ONE, ZERO], NX)
        self.check(GREATEST_SUBNORMAL | SIGN, [MINUS_ZERO, MINUS_ZERO, ONE | SIGN, MINUS_ZERO, MINUS_ZERO], NX)
        self.check(ONE - 1, [ONE, ZERO, ZERO, ONE, ONE], NX)

    def test_the_last_halves(self):
        below = power(112) - 1
        self.check(below, [power(112), below - 1, below - 1, power(112), power(112)], NX)
        self.check(below - 2, [below - 3, below - 3, below - 3, below - 1, below - 1], NX)

    def test_whole_already(self):
        for a in (ZERO, MINUS_ZERO, ONE, THREE | SIGN, power(112) + 1, power(113) + 1, GREATEST, INF, MINUS_INF):
            self.check(a, [a] * 5, 0)

    def test_not_numbers(self):
        for exact in range(2):
            for mode in MODES:
                self.assertEqual(ask(5, QUIET, exact, mode), [NAN, 0])
                self.assertEqual(ask(5, SIGNALING, exact, mode), [NAN, NV])


class Next(unittest.TestCase):
    def test_up_and_down(self):
        for low, high in ((ONE - 1, ONE), (ONE, ONE + 1), (LEAST, 2), (GREATEST_SUBNORMAL, LEAST_NORMAL),
                          (TWO - 1, TWO), (GREATEST - 1, GREATEST), (GREATEST, INF)):
            self.assertEqual(ask(6, low, 0), [high, 0])
            self.assertEqual(ask(6, high, 1), [low, 0])
            self.assertEqual(ask(6, high | SIGN, 0), [low | SIGN, 0])
            self.assertEqual(ask(6, low | SIGN, 1), [high | SIGN, 0])

    def test_around_zero(self):
        for a in (ZERO, MINUS_ZERO):
            self.assertEqual(ask(6, a, 0), [LEAST, 0])
            self.assertEqual(ask(6, a, 1), [LEAST | SIGN, 0])
        self.assertEqual(ask(6, LEAST, 1), [ZERO, 0])
        self.assertEqual(ask(6, LEAST | SIGN, 0), [MINUS_ZERO, 0])

    def test_infinities(self):
        self.assertEqual(ask(6, INF, 0), [INF, 0])
        self.assertEqual(ask(6, MINUS_INF, 1), [MINUS_INF, 0])
        self.assertEqual(ask(6, INF, 1), [GREATEST, 0])
        self.assertEqual(ask(6, MINUS_INF, 0), [GREATEST | SIGN, 0])

    def test_not_numbers(self):
        for down in range(2):
            self.assertEqual(ask(6, QUIET, down), [NAN, 0])
            self.assertEqual(ask(6, SIGNALING, down), [NAN, NV])
            self.assertEqual(ask(6, SIGNALING_TOO, down), [NAN, NV])


class Split(unittest.TestCase):
    def test_numbers(self):
        for a, s, e in ((ONE, ONE, 0), (THREE | SIGN, ONE | SIGN | 1 << 111, 1), (HALF, ONE, -1), (LEAST, ONE, -16494),
                        (3 | SIGN, ONE | SIGN | 1 << 111, -16493), (LEAST_NORMAL, ONE, -16382),
                        (GREATEST_SUBNORMAL, TWO - 2, -16383), (GREATEST, TWO - 1, 16383)):
            self.assertEqual(ask(7, a), [s, e, 0])

    def test_the_others(self):
        for a in (ZERO, MINUS_ZERO, INF, MINUS_INF):
            self.assertEqual(ask(7, a), [a, 0, 0])
        self.assertEqual(ask(7, QUIET), [NAN, 0, 0])
        self.assertEqual(ask(7, SIGNALING), [NAN, 0, NV])


if __name__ == "__main__":
    unittest.main()
