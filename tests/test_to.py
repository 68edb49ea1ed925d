"""Call 14, to: quadruple numbers rounded to half, single, double and extended ones."""

import random
import struct
import unittest

from known import (GREATEST, INF, LEAST, MINUS_INF, MINUS_ZERO, MODES, NAN, NV, NX, OF, QUIET, SIGN, SIGNALING,
                   SIGNALING_TOO, UF, ZERO, ask, quad)
from quadnumbers.desk import answers

# For each format: its exponent bits, its fraction bits, and the place of its exponent field.
SHAPES = ((5, 10, 10), (8, 23, 23), (11, 52, 52), (15, 63, 64))


def made(form, field, fraction, sign=0):
    """The bits of a number of the format, of an extended one with its top bit put in."""
    exponent_bits, fraction_bits, place = SHAPES[form]
    top = 1 << 63 if form == 3 and field > 0 else 0
    return sign << (exponent_bits + place) | field << place | top | fraction


def bias(form):
    return 2**(SHAPES[form][0] - 1) - 1


class To(unittest.TestCase):
    def both_signs(self, form, a, found):
        """By each mode the bits and flags that a positive number becomes, and a negative one in the mirror."""
        self.assertEqual([ask(14, form, a, mode) for mode in MODES], found, (form, hex(a)))
        exponent_bits, fraction_bits, place = SHAPES[form]
        mirrored = [[found[mode][0] | 1 << (exponent_bits + place), found[mode][1]] for mode in (0, 1, 3, 2, 4)]
        self.assertEqual([ask(14, form, a | SIGN, mode) for mode in MODES], mirrored, (form, hex(a)))

    def by_modes(self, form, a, bits, flags):
        self.both_signs(form, a, [list(pair) for pair in zip(bits, flags)])

    def test_numbers_of_the_format(self):
        for form, (exponent_bits, f, place) in enumerate(SHAPES):
            b = bias(form)
            for a, field, fraction in ((quad(1, 1 - b - f), 0, 1), (quad(2**f - 1, 1 - b - f), 0, 2**f - 1),
                                       (quad(1, 1 - b), 1, 0), (quad(2**f + 1, 1 - b - f), 1, 1),
                                       (quad(2**(f + 1) - 1, b - f), 2 * b, 2**f - 1), (quad(1, b), 2 * b, 0),
                                       (quad(1), b, 0), (quad(3), b + 1, 2**(f - 1)), (quad(2**f + 1, -f), b, 1),
                                       (ZERO, 0, 0), (INF, 2 * b + 1, 0), (quad(1, -b), 0, 2**(f - 1))):
                self.both_signs(form, a, [[made(form, field, fraction), 0]] * 5)

    def test_ties_and_beside_them(self):
        for form, (exponent_bits, f, place) in enumerate(SHAPES):
            one = made(form, bias(form), 0)
            tie, odd_tie = quad(2**(f + 1) + 1, -f - 1), quad(2**(f + 1) + 3, -f - 1)
            self.by_modes(form, tie, (one, one, one, one + 1, one + 1), [NX] * 5)
            self.by_modes(form, odd_tie, (one + 2, one + 1, one + 1, one + 2, one + 2), [NX] * 5)
            self.by_modes(form, tie + 1, (one + 1, one, one, one + 1, one + 1), [NX] * 5)
            self.by_modes(form, tie - 1, (one, one, one, one + 1, one), [NX] * 5)
            self.by_modes(form, odd_tie - 1, (one + 1, one + 1, one + 1, one + 2, one + 1), [NX] * 5)

    def test_rounding_up_to_the_next_power_of_two(self):
        for form, (exponent_bits, f, place) in enumerate(SHAPES):
            below, two = made(form, bias(form), 2**f - 1), made(form, bias(form) + 1, 0)
            self.by_modes(form, quad(2**(f + 2) - 1, -f - 1), (two, below, below, two, two), [NX] * 5)
            self.by_modes(form, quad(2) - 1, (two, below, below, two, two), [NX] * 5)

    def test_overflow(self):
        for form, (exponent_bits, f, place) in enumerate(SHAPES):
            b = bias(form)
            inf, greatest = made(form, 2 * b + 1, 0), made(form, 2 * b, 2**f - 1)
            tie = quad(2**(f + 2) - 1, b - f - 1)
            for a in (tie, tie + 1):
                self.by_modes(form, a, (inf, greatest, greatest, inf, inf), (OF + NX, NX, NX, OF + NX, OF + NX))
            for a in (tie - 1, quad(2**(f + 1) - 1, b - f) + 1):
                self.by_modes(form, a, (greatest, greatest, greatest, inf, greatest), (NX, NX, NX, OF + NX, NX))
            if form < 3:
                for a in (quad(1, b + 1), quad(1, b + 1) + 1, quad(3, b + 50), GREATEST):
                    self.by_modes(form, a, (inf, greatest, greatest, inf, inf), [OF + NX] * 5)

    def test_just_below_the_least_normal_number(self):
        for form, (exponent_bits, f, place) in enumerate(SHAPES):
            m = 1 - bias(form)
            normal, below = made(form, 1, 0), made(form, 0, 2**f - 1)
            # Half of a step below: on the grid that exponents without end would have, so tiny.
            half = quad(2**(f + 1) - 1, m - f - 1)
            self.by_modes(form, half, (normal, below, below, normal, normal), [NX + UF] * 5)
            # A quarter below is rounded up to 2^m there as well, where the mode doesn't lead down.
            self.by_modes(form, quad(2**(f + 2) - 1, m - f - 2), (normal, below, below, normal, normal),
                          (NX, NX + UF, NX + UF, NX, NX))
            # Three eighths below are nearer to a half there, so only upward they aren't tiny.
            self.by_modes(form, quad(2**(f + 3) - 3, m - f - 3), (normal, below, below, normal, normal),
                          (NX + UF, NX + UF, NX + UF, NX, NX + UF))
            self.by_modes(form, quad(1, m) - 1, (normal, below, below, normal, normal), (NX, NX + UF, NX + UF, NX, NX))
            # Above it nothing is tiny.
            self.by_modes(form, quad(2**(f + 1) + 1, m - f - 1), (normal, normal, normal, normal + 1, normal + 1),
                          [NX] * 5)

    def test_subnormal_ties_and_the_way_to_zero(self):
        for form, (exponent_bits, f, place) in enumerate(SHAPES):
            step = 1 - bias(form) - f
            for size, found in ((1, (0, 0, 0, 1, 1)), (3, (2, 1, 1, 2, 2)), (5, (2, 2, 2, 3, 3)), (7, (4, 3, 3, 4, 4))):
                self.by_modes(form, quad(size, step - 1), found, [NX + UF] * 5)
            self.by_modes(form, quad(1, step - 1) + 1, (1, 0, 0, 1, 1), [NX + UF] * 5)
            self.by_modes(form, quad(1, step - 1) - 1, (0, 0, 0, 1, 0), [NX + UF] * 5)
            self.by_modes(form, LEAST, (0, 0, 0, 1, 0), [NX + UF] * 5)

    def test_extended_numbers_below_their_least_normal_one(self):
        for size, exponent, significand in ((1, -16383, 1 << 62), (3, -16384, 3 << 61), (1, -16445, 1),
                                            (2**63 - 1, -16445, 2**63 - 1), (5, -16400, 5 << 45)):
            self.both_signs(3, quad(size, exponent), [[significand, 0]] * 5)
        self.both_signs(3, quad(1, -16382), [[1 << 64 | 1 << 63, 0]] * 5)

    def test_infinities_and_zeros(self):
        for form, (exponent_bits, f, place) in enumerate(SHAPES):
            for mode in MODES:
                self.assertEqual(ask(14, form, MINUS_INF, mode), [made(form, 2 * bias(form) + 1, 0, 1), 0])
                self.assertEqual(ask(14, form, MINUS_ZERO, mode), [made(form, 0, 0, 1), 0])

    def test_not_numbers(self):
        canonical = (0x7E00, 0x7FC00000, 0x7FF8 << 48, 0x7FFF << 64 | 3 << 62)
        for form in range(4):
            for mode in MODES:
                for a in (NAN, QUIET, NAN | 1, 2**128 - 1):
                    self.assertEqual(ask(14, form, a, mode), [canonical[form], 0])
                for a in (SIGNALING, SIGNALING_TOO, INF | 2**111 - 1):
                    self.assertEqual(ask(14, form, a, mode), [canonical[form], NV])

    def test_every_half_number_there_and_back(self):
        numbers = [bits for bits in range(2**16) if bits & 0x7FFF <= 0x7C00]
        for start in range(0, len(numbers), 400):
            part = numbers[start:start + 400]
            there = answers([number for bits in part for number in (13, 0, bits)])[2::4]
            back = answers([number for place, a in enumerate(there) for number in (14, 0, a, place % 5)])
            self.assertEqual(back, [number for bits in part for number in (3, 0, bits, 0)])

    def test_doubles_against_those_of_python(self):
        source = random.Random("doubles")
        for turn in range(4000):
            for form, code, field in ((0, "<e", 1023 - 28 + source.randrange(48)),
                                      (1, "<f", 1023 - 152 + source.randrange(285))):
                double = source.getrandbits(1) << 63 | field << 52 | source.getrandbits(52) >> 20 << source.randrange(21)
                value = struct.unpack("<d", double.to_bytes(8, "little"))[0]
                try:
                    asked = int.from_bytes(struct.pack(code, value), "little")
                except OverflowError:
                    asked = made(form, 2 * bias(form) + 1, 0, double >> 63)
                a = ask(13, 2, double)[0]
                self.assertEqual(ask(14, form, a, 0)[0], asked, value)
                self.assertEqual(ask(14, 2, a, turn % 5), [double, 0])


if __name__ == "__main__":
    unittest.main()
