"""Call 13, from: half, single, double and extended numbers into quadruple ones."""

import struct
import unittest

from known import INF, MINUS_INF, MINUS_ZERO, NAN, NV, ONE, REFUSED, SIGN, THREE, TWO, ZERO, ask, power

HALF, SINGLE, DOUBLE, EXTENDED = range(4)

# For each format of IEEE's: its bits in all and those of its fraction.
SHAPES = ((HALF, 16, 10), (SINGLE, 32, 23), (DOUBLE, 64, 52))


class Interchange(unittest.TestCase):
    def test_infinities_zeros_and_nans(self):
        for form, width, fraction in SHAPES:
            sign, inf = 1 << width - 1, (1 << width - 1) - (1 << fraction)
            for bits, found in ((0, [ZERO, 0]), (sign, [MINUS_ZERO, 0]), (inf, [INF, 0]), (sign | inf, [MINUS_INF, 0]),
                                (inf | 1, [NAN, NV]), (sign | inf + (1 << fraction - 1) - 1, [NAN, NV]),
                                (inf + (1 << fraction - 1), [NAN, 0]), (2 * sign - 1, [NAN, 0])):
                self.assertEqual(ask(13, form, bits), found, (form, hex(bits)))

    def test_least_and_greatest(self):
        for form, width, fraction in SHAPES:
            bias = (1 << width - fraction - 2) - 1
            inf, sign = (2 * bias + 1) << fraction, 1 << width - 1
            ones = ((1 << fraction) - 1) << (112 - fraction)
            self.assertEqual(ask(13, form, 1), [power(1 - bias - fraction), 0])
            self.assertEqual(ask(13, form, 1 << fraction), [power(1 - bias), 0])
            self.assertEqual(ask(13, form, inf - 1), [power(bias) | ones, 0])
            self.assertEqual(ask(13, form, sign | (inf - 1)), [power(bias) | ones | SIGN, 0])
            below = ones << 1 & (1 << 112) - 1
            self.assertEqual(ask(13, form, (1 << fraction) - 1), [power(-bias) | below, 0])

    def test_ordinary_numbers(self):
        for form, code in ((HALF, "<e"), (SINGLE, "<f"), (DOUBLE, "<d")):
            for value, found in ((1.0, ONE), (-2.0, TWO | SIGN), (3.0, THREE), (0.375, power(-2) | 1 << 111)):
                bits = int.from_bytes(struct.pack(code, value), "little")
                self.assertEqual(ask(13, form, bits), [found, 0])


class Extended(unittest.TestCase):
    def check(self, field, significand, found):
        self.assertEqual(ask(13, EXTENDED, field << 64 | significand), found)
        minus = found if found[0] == NAN else [found[0] | SIGN, found[1]]
        self.assertEqual(ask(13, EXTENDED, 1 << 79 | field << 64 | significand), minus)

    def test_normal_numbers(self):
        self.check(16383, 1 << 63, [ONE, 0])
        self.check(16384, 3 << 62, [THREE, 0])
        self.check(1, 1 << 63, [power(-16382), 0])
        self.check(32766, 2**64 - 1, [power(16383) | (2**63 - 1) << 49, 0])

    def test_the_field_zero_whatever_the_top_bit(self):
        self.check(0, 0, [ZERO, 0])
        self.check(0, 1, [power(-16445), 0])
        self.check(0, 1 << 62, [power(-16383), 0])
        self.check(0, 1 << 63, [power(-16382), 0])
        self.check(0, 3 << 62, [power(-16382) | 1 << 111, 0])
        self.check(0, 2**63 - 1, [(2**63 - 1) << 49, 0])

    def test_infinities_and_nans(self):
        self.check(32767, 1 << 63, [INF, 0])
        self.check(32767, 3 << 62, [NAN, 0])
        self.check(32767, 2**64 - 1, [NAN, 0])
        self.check(32767, 1 << 63 | 1, [NAN, NV])
        self.check(32767, (3 << 62) - 1, [NAN, NV])

    def test_invalid_ones(self):
        self.check(32767, 0, [NAN, NV])
        self.check(32767, 1, [NAN, NV])
        self.check(32767, 2**63 - 1, [NAN, NV])
        self.check(32767, 1 << 62, [NAN, NV])
        self.check(1, 0, [NAN, NV])
        self.check(1, 2**63 - 1, [NAN, NV])
        self.check(16383, 1 << 62, [NAN, NV])
        self.check(32766, 2**63 - 1, [NAN, NV])


class TooManyBits(unittest.TestCase):
    def test_each_format(self):
        for form, width in enumerate((16, 32, 64, 80)):
            self.assertEqual(ask(13, form, 2**width - 1)[0], NAN)
            for bits in (2**width, 2**width + 1, 2**127, 2**128 - 1):
                self.assertEqual(ask(13, form, bits), REFUSED)

    def test_no_such_format(self):
        for form in (4, 5, 2**31, 2**32 - 1):
            for bits in (0, 1, 2**128 - 1):
                self.assertEqual(ask(13, form, bits), REFUSED)


if __name__ == "__main__":
    unittest.main()
