"""Calls 8 to 12: pick, sign, compare, order and class."""

import unittest

from known import (GREATEST, GREATEST_SUBNORMAL, INF, LEAST, LEAST_NORMAL, MINUS_INF, MINUS_ZERO, NAN, NV, ONE, QUIET,
                   SIGN, SIGNALING, SIGNALING_TOO, TWO, ZERO, ask)

# From the lowest number to the highest.
RISING = [MINUS_INF, GREATEST | SIGN, TWO | SIGN, ONE | SIGN, LEAST_NORMAL | SIGN, GREATEST_SUBNORMAL | SIGN, LEAST | SIGN,
          MINUS_ZERO, ZERO, LEAST, GREATEST_SUBNORMAL, LEAST_NORMAL, ONE, TWO, GREATEST, INF]

# Every bit pattern of a NaN lies beyond the infinity of its sign.
ALL_RISING = [2**128 - 1, QUIET, NAN | SIGN, SIGNALING_TOO] + RISING + [SIGNALING, NAN - 1, NAN, NAN | 1, 2**127 - 1]


class Pick(unittest.TestCase):
    def test_numbers(self):
        for low, a in enumerate(RISING):
            for high, b in enumerate(RISING):
                self.assertEqual(ask(8, a, b, 0), [RISING[min(low, high)], 0])
                self.assertEqual(ask(8, a, b, 1), [RISING[max(low, high)], 0])

    def test_one_not_a_number(self):
        for which in range(2):
            for a in RISING:
                self.assertEqual(ask(8, a, QUIET, which), [a, 0])
                self.assertEqual(ask(8, QUIET, a, which), [a, 0])
                self.assertEqual(ask(8, a, SIGNALING, which), [a, NV])
                self.assertEqual(ask(8, SIGNALING_TOO, a, which), [a, NV])

    def test_two_not_numbers(self):
        for which in range(2):
            self.assertEqual(ask(8, QUIET, QUIET | 1, which), [NAN, 0])
            self.assertEqual(ask(8, QUIET, SIGNALING, which), [NAN, NV])
            self.assertEqual(ask(8, SIGNALING, QUIET, which), [NAN, NV])


class Sign(unittest.TestCase):
    def test_bits_alone(self):
        for a in ALL_RISING:
            plain = a & ~SIGN
            for b in ALL_RISING:
                its = b & SIGN
                self.assertEqual(ask(9, a, b, 0), [plain | its, 0])
                self.assertEqual(ask(9, a, b, 1), [plain | (SIGN - its), 0])
                self.assertEqual(ask(9, a, b, 2), [a ^ its, 0])


class Compare(unittest.TestCase):
    def test_numbers(self):
        heights = [at if bits != ZERO else at - 1 for at, bits in enumerate(RISING)]
        for a, low in zip(RISING, heights):
            for b, high in zip(RISING, heights):
                found = [int(low == high), int(low < high), int(low <= high)]
                for kind, holds in enumerate(found + found[1:]):
                    self.assertEqual(ask(10, a, b, kind), [holds, 0])

    def test_not_numbers(self):
        for a, b, signaling in ((ONE, QUIET, False), (QUIET, INF, False), (QUIET, QUIET, False), (SIGNALING, ONE, True),
                                (ZERO, SIGNALING_TOO, True), (QUIET, SIGNALING, True), (SIGNALING, SIGNALING, True)):
            for kind in range(5):
                self.assertEqual(ask(10, a, b, kind), [0, NV if signaling or kind in (1, 2) else 0])


class Order(unittest.TestCase):
    def test_all_patterns(self):
        for low, a in enumerate(ALL_RISING):
            for high, b in enumerate(ALL_RISING):
                self.assertEqual(ask(11, a, b), [(low > high) - (low < high)])


class Class(unittest.TestCase):
    def test_each(self):
        for bits, bit in ((MINUS_INF, 0), (GREATEST | SIGN, 1), (LEAST_NORMAL | SIGN, 1), (GREATEST_SUBNORMAL | SIGN, 2),
                          (LEAST | SIGN, 2), (MINUS_ZERO, 3), (ZERO, 4), (LEAST, 5), (GREATEST_SUBNORMAL, 5),
                          (LEAST_NORMAL, 6), (ONE, 6), (GREATEST, 6), (INF, 7), (SIGNALING, 8), (SIGNALING_TOO, 8),
                          (NAN - 1, 8), (NAN, 9), (QUIET, 9), (2**127 - 1, 9), (2**128 - 1, 9)):
            self.assertEqual(ask(12, bits), [2**bit])


if __name__ == "__main__":
    unittest.main()
