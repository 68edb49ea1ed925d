"""Call 19, read, and promise 3: what show and hex wrote is read back."""

import random
import unittest

from known import (EDGES, GREATEST, GREATEST_SUBNORMAL, HALF, INF, LEAST, LEAST_NORMAL, MINUS_INF, MINUS_ZERO, MODES, NAN,
                   NX, OF, ONE, REFUSED, SIGN, THREE, TWO, UF, ZERO, ask, in_hex, power, quad, read, show)

# Texts that are a number's text to their end, and the number.
WHOLE = (
    ("0", ZERO), ("1", ONE), ("2", TWO), ("10", quad(10)), ("007", quad(7)), ("1.", ONE), ("1.5", quad(3, -1)),
    (".5", HALF), ("0.5", HALF), (".50", HALF), ("00.500", HALF), ("1e0", ONE), ("1e1", quad(10)), ("1e+1", quad(10)),
    ("10e-1", ONE), ("5e-1", HALF), ("1.e1", quad(10)), (".5e1", quad(5)), ("1.5e2", quad(150)), ("125e-3", power(-3)),
    ("1e00000000000000000001", quad(10)), ("1e-00", ONE), ("12345678901234567890", quad(12345678901234567890)),
    ("0.0000152587890625", power(-16)), ("1e33", quad(10**33)), ("0.00000000000000000000000000000000000001e38", ONE),
    ("100000000000000000000000000000000000000e-38", ONE),
    ("0x0", ZERO), ("0x1", ONE), ("0xa", quad(10)), ("0xff", quad(255)), ("0x1.", ONE), ("0x1.8", quad(3, -1)),
    ("0x.8", HALF), ("0x.8p1", ONE), ("0x1p0", ONE), ("0x1p1", TWO), ("0x1p+1", TWO), ("0x1p-1", HALF), ("0x1.p-1", HALF),
    ("0xe", quad(14)), ("0x1e1", quad(0x1E1)), ("0xep1", quad(28)), ("0x0.00008p17", ONE), ("0x1p0010", quad(1024)),
    ("0xabcdef", quad(0xABCDEF)), ("0x123456789", quad(0x123456789)), ("0x1p-16494", LEAST), ("0x.3p-16490", 3),
    ("0x1p16383", power(16383)), ("0x1.ffffffffffffffffffffffffffffp16383", GREATEST),
    ("0x8000000000000000000000000000p-16494", power(-16383)), ("0x00000000000000000000000000000000000000001", ONE),
    ("inf", INF), ("infinity", INF),
)

# Texts whose longest beginning that is a number's text is shorter: how long, and the number.
LONGER = (
    ("1x", 1, ONE), ("1 ", 1, ONE), ("1..", 2, ONE), ("1.5.5", 3, quad(3, -1)), ("1e", 1, ONE), ("1e+", 1, ONE),
    ("1e-", 1, ONE), ("1ee1", 1, ONE), ("1e1e1", 3, quad(10)), ("1e1.5", 3, quad(10)), ("1.e", 2, ONE), (".5e", 2, HALF),
    (".5e-", 2, HALF), ("1e++1", 1, ONE), ("1e+-1", 1, ONE), ("1e 1", 1, ONE), ("1p1", 1, ONE), ("1f", 1, ONE),
    ("1+1", 1, ONE), ("1-", 1, ONE), ("1,5", 1, ONE), ("1_0", 1, ONE), ("2\0", 1, TWO), ("2\xff", 1, TWO),
    ("1\n", 1, ONE), ("1E1", 1, ONE), ("1.5E1", 3, quad(3, -1)), ("1:", 1, ONE), ("1/2", 1, ONE),
    ("0x", 1, ZERO), ("0x.", 1, ZERO), ("0xg", 1, ZERO), ("0x.p1", 1, ZERO), ("0xp1", 1, ZERO), ("0x-1", 1, ZERO),
    ("0x+1", 1, ZERO), ("0x 1", 1, ZERO), ("0X1", 1, ZERO), ("0xA", 1, ZERO), ("00x1", 2, ZERO), ("0x1p", 3, ONE),
    ("0x1p+", 3, ONE), ("0x1p-", 3, ONE), ("0x1pa", 3, ONE), ("0x1P1", 3, ONE), ("0x1.p", 4, ONE), ("0x1..", 4, ONE),
    ("0x.8p", 4, HALF), ("0x1e+1", 4, quad(0x1E)), ("0x1p1p1", 5, TWO), ("0x1p1.5", 5, TWO), ("0x1p1e1", 5, TWO),
    ("0x1p1f", 5, TWO), ("0x1F", 3, ONE), ("0x1g", 3, ONE), ("0x10x1", 4, quad(16)), ("1x1", 1, ONE), ("0.x1", 2, ZERO),
    ("infi", 3, INF), ("infin", 3, INF), ("infini", 3, INF), ("infinit", 3, INF), ("infinit y", 3, INF),
    ("infinityy", 8, INF), ("infinity1", 8, INF), ("infINITY", 3, INF), ("inf1", 3, INF), ("infinf", 3, INF),
    ("inf.", 3, INF), ("infe1", 3, INF),
)

NO_NUMBER = ("", "+", "-", ".", "+.", "-.", "..", ".e1", "e1", "e", "x", "x1", "p1", "i", "in", "n", "na", "+i", "-in",
             "+n", "-na", "++1", "--1", "+-1", "-+1", " 1", "- 1", "+ 1", "a", "f", "ff", "INF", "Inf", "iNf", "INFINITY",
             "NAN", "NaN", "Nan", ".x", "._5", ". 5", "-.e5", ",5", "/", ":", "\0", "\xff", "\n1", "_1", "#1", "\xb2",
             "-e1", "nfinity")


class Texts(unittest.TestCase):
    def check(self, text, used, bits, flags=0):
        for mode in MODES:
            self.assertEqual(read(text, mode), [used, bits, flags], (text, mode))

    def test_whole_texts(self):
        for text, bits in WHOLE:
            self.check(text, len(text), bits)
            self.check("+" + text, len(text) + 1, bits)
            self.check("-" + text, len(text) + 1, bits | SIGN)

    def test_bytes_behind(self):
        for text, used, bits in LONGER:
            self.check(text, used, bits)
            self.check("+" + text, used + 1, bits)
            self.check("-" + text, used + 1, bits | SIGN)
        for text, bits in WHOLE:
            for behind in (" ", "+", "-", "g", "x", "z", ",", "\0", "\xff", "E", "P", "A", "\n", "_", "n"):
                # No text goes on with one of these alone.
                self.check(text + behind, len(text), bits)
                self.check("-" + text + behind + " 1", len(text) + 1, bits | SIGN)

    def test_no_number(self):
        for text in NO_NUMBER:
            self.check(text, 0, ZERO)
        for byte in range(256):
            if not (48 <= byte <= 57):
                self.check(chr(byte), 0, ZERO)

    def test_nan_whatever_its_sign(self):
        for text in ("nan", "+nan", "-nan"):
            self.check(text, len(text), NAN)
            for behind in ("n", "nan", "1", ".", "(1)", " "):
                self.check(text + behind, len(text), NAN)

    def test_every_beginning_of_a_long_form(self):
        text = "-12.50e+01"
        for size, used, bits in ((0, 0, ZERO), (1, 0, ZERO), (2, 2, quad(-1)), (3, 3, quad(-12)), (4, 4, quad(-12)),
                                 (5, 5, quad(-25, -1)), (6, 6, quad(-25, -1)), (7, 6, quad(-25, -1)),
                                 (8, 6, quad(-25, -1)), (9, 9, quad(-25, -1)), (10, 10, quad(-125))):
            self.check(text[:size], used, bits)
        text = "+0x1.8p-1"
        for size, used, bits in ((1, 0, ZERO), (2, 2, ZERO), (3, 2, ZERO), (4, 4, ONE), (5, 5, ONE), (6, 6, quad(3, -1)),
                                 (7, 6, quad(3, -1)), (8, 6, quad(3, -1)), (9, 9, quad(3, -2))):
            self.check(text[:size], used, bits)
        text = "-infinity"
        for size in range(10):
            used = 0 if size < 4 else 4 if size < 9 else 9
            self.check(text[:size], used, MINUS_INF if used else ZERO)

    def test_zeros_with_any_exponent(self):
        for text in ("0", "0.0", ".0", "0.", "000", "0e0", "0e9", "0e-9", "0e99999", "0e-99999", "0.000e123456789012345",
                     "0e" + "9" * 400, "0e-" + "9" * 400, "0x0", "0x0.0", "0x.0", "0x0p99999", "0x0p-99999",
                     "0x0p" + "9" * 400, "0x0p-" + "9" * 400, "0" * 500):
            self.check(text, len(text), ZERO)
            self.check("-" + text, len(text) + 1, MINUS_ZERO)


class Rounding(unittest.TestCase):
    def both_signs(self, text, found, flags):
        """Found are the bits by each mode; those of the text with a minus stand in the mirror."""
        self.assertEqual([read(text, mode) for mode in MODES], [[len(text), bits, flags] for bits in found], text)
        mirrored = [found[mode] | SIGN for mode in (0, 1, 3, 2, 4)]
        self.assertEqual([read("-" + text, mode) for mode in MODES], [[len(text) + 1, bits, flags] for bits in mirrored])

    def test_a_tenth(self):
        below = 0x3FFB9999999999999999999999999999
        self.both_signs("0.1", (below + 1, below, below, below + 1, below + 1), NX)
        self.both_signs("1e-1", (below + 1, below, below, below + 1, below + 1), NX)
        self.both_signs(".1" + "0" * 500, (below + 1, below, below, below + 1, below + 1), NX)

    def test_ties_of_many_digits(self):
        # 1 + 2^-113 and 1 + 3 2^-113 with all of their digits, and with one far behind that breaks the tie.
        tie = "1." + str(5**113).zfill(113)
        odd = "1." + str(3 * 5**113).zfill(113)
        self.both_signs(tie, (ONE, ONE, ONE, ONE + 1, ONE + 1), NX)
        self.both_signs(odd, (ONE + 2, ONE + 1, ONE + 1, ONE + 2, ONE + 2), NX)
        for zeros in (0, 1, 30, 390):
            self.both_signs(tie + "0" * zeros, (ONE, ONE, ONE, ONE + 1, ONE + 1), NX)
            self.both_signs(tie + "0" * zeros + "1", (ONE + 1, ONE, ONE, ONE + 1, ONE + 1), NX)
        below = "1." + str(5**113 - 1).zfill(113)
        self.both_signs(below, (ONE, ONE, ONE, ONE + 1, ONE), NX)
        self.both_signs(below + "9" * 390, (ONE, ONE, ONE, ONE + 1, ONE), NX)

    def test_ties_of_whole_numbers(self):
        for text, found in ((str(2**113 + 1), (0, 0, 0, 1, 1)), (str(2**113 + 3), (2, 1, 1, 2, 2)),
                            ("0x" + "2" + "0" * 27 + "1", (0, 0, 0, 1, 1)),
                            ("0x" + "2" + "0" * 27 + "1." + "0" * 400 + "1", (1, 0, 0, 1, 1)),
                            ("0x" + "2" + "0" * 27 + "0." + "f" * 400, (0, 0, 0, 1, 0)),
                            (str(2**113 + 1) + "." + "0" * 400 + "1", (1, 0, 0, 1, 1))):
            self.both_signs(text, [power(113) + step for step in found], NX)

    def test_overflow(self):
        over = (INF, GREATEST, GREATEST, INF, INF)
        for text in ("1e4933", "1e5000", "2e4932", "1e99999", "1e" + "9" * 500, "1e+" + "9" * 500, "0x1p16384",
                     "0x1p99999", "0x1p" + "9" * 500, "9" * 500 + "e4500", "0x.0001p16400", "0." + "0" * 300 + "1e9999",
                     "0x1.8p2147483648", "1e4294967296", "1e18446744073709551616", "0x" + "f" * 400 + "p15000",
                     "0." + "0" * 480 + "1e20000", "0x." + "0" * 480 + "1p20000"):
            self.both_signs(text, over, OF + NX)

    def test_overflow_begins_in_the_middle_above_the_greatest(self):
        middle = "0x1." + "f" * 28 + "8p16383"
        self.assertEqual([read(middle, mode)[1:] for mode in MODES],
                         [[INF, OF + NX], [GREATEST, NX], [GREATEST, NX], [INF, OF + NX], [INF, OF + NX]])
        self.assertEqual([read("-" + middle, mode)[1:] for mode in MODES],
                         [[MINUS_INF, OF + NX], [GREATEST | SIGN, NX], [MINUS_INF, OF + NX], [GREATEST | SIGN, NX],
                          [MINUS_INF, OF + NX]])
        below = "0x1." + "f" * 28 + "7fffp16383"
        self.assertEqual([read(below, mode)[1:] for mode in MODES],
                         [[GREATEST, NX], [GREATEST, NX], [GREATEST, NX], [INF, OF + NX], [GREATEST, NX]])
        self.assertEqual(read("1.18973149535723176508575932662800702e4932")[1:], [GREATEST, NX])
        self.assertEqual(read("1.1897314953572317650857593266280072e4932")[1:], [INF, OF + NX])

    def test_underflow(self):
        for text in ("1e-4967", "1e-5000", "3e-4966", "1e-99999", "1e-" + "9" * 500, "0x1p-16496", "0x1p-99999",
                     "0x1p-" + "9" * 500, "0." + "0" * 480 + "1e-4500", "9" * 480 + "e-9999", "0x" + "f" * 400 + "p-30000",
                     "1e-2147483648", "1e-4294967296", "1e-18446744073709551616", "0x1p-18446744073709551616",
                     "9" * 490 + "e-20000"):
            self.both_signs(text, (ZERO, ZERO, ZERO, LEAST, ZERO), NX + UF)
        self.both_signs("0x1p-16495", (ZERO, ZERO, ZERO, LEAST, LEAST), NX + UF)
        self.both_signs("0x3p-16495", (2, 1, 1, 2, 2), NX + UF)
        self.both_signs("0x1." + "0" * 400 + "1p-16495", (LEAST, ZERO, ZERO, LEAST, LEAST), NX + UF)
        self.both_signs("5e-4966", (LEAST, ZERO, ZERO, LEAST, LEAST), NX + UF)

    def test_around_the_least_normal_number(self):
        # Half, a quarter and three eighths of a step below it: tiny, not tiny, tiny but upward.
        self.both_signs("0x.ffffffffffffffffffffffffffff8p-16382",
                        (LEAST_NORMAL, GREATEST_SUBNORMAL, GREATEST_SUBNORMAL, LEAST_NORMAL, LEAST_NORMAL), NX + UF)
        for fraction, flags in (("cp", (NX, NX + UF, NX + UF, NX, NX)), ("ap", (NX + UF, NX + UF, NX + UF, NX, NX + UF))):
            text = "0x." + "f" * 28 + fraction + "-16382"
            bits = (LEAST_NORMAL, GREATEST_SUBNORMAL, GREATEST_SUBNORMAL, LEAST_NORMAL, LEAST_NORMAL)
            self.assertEqual([read(text, mode)[1:] for mode in MODES], [list(pair) for pair in zip(bits, flags)])
            mirrored = [[bits[mode] | SIGN, flags[mode]] for mode in (0, 1, 3, 2, 4)]
            self.assertEqual([read("-" + text, mode)[1:] for mode in MODES], mirrored)

    def test_exact_subnormal_numbers_raise_nothing(self):
        for mode in MODES:
            self.assertEqual(read("0x1p-16494", mode)[1:], [LEAST, 0])
            self.assertEqual(read("0x1.8p-16493", mode)[1:], [3, 0])
            self.assertEqual(read("-0x1." + "f" * 27 + "ep-16383", mode)[1:], [GREATEST_SUBNORMAL | SIGN, 0])

    def test_long_exponents_that_digits_make_up_for(self):
        self.both_signs("0." + "0" * 299 + "1e300", [ONE] * 5, 0)
        self.both_signs("1" + "0" * 300 + "e-300", [ONE] * 5, 0)
        self.both_signs("0x." + "0" * 300 + "1p1204", [ONE] * 5, 0)
        self.both_signs("0x1" + "0" * 300 + "p-1200", [ONE] * 5, 0)
        self.both_signs("0x." + "0" * 300 + "1p17400", [power(16196)] * 5, 0)
        self.both_signs("0x1" + "0" * 300 + "p-17600", [power(-16400)] * 5, 0)

    def test_the_numbers_around_each_text(self):
        # Down and up are neighbours where a text isn't exact, and nearest is one of them.
        source = random.Random("around")
        for turn in range(500):
            text = "%d.%de%d" % (source.randrange(1, 10), source.getrandbits(180), source.randrange(-4960, 4930))
            found = [read(text, mode)[1] for mode in MODES]
            self.assertEqual(found[1], found[2])
            self.assertEqual(found[3], found[2] + 1)
            self.assertIn(found[0], found[2:4])
            self.assertEqual(found[0], found[4])


class Lengths(unittest.TestCase):
    def test_512_bytes_and_more(self):
        for text in ("1" + "0" * 511, "0" * 511 + "1", "1" + " " * 511, " " * 512, "0x" + "0" * 509 + "1", "\xff" * 512):
            for mode in MODES:
                self.assertNotEqual(read(text, mode), REFUSED)
                for behind in ("0", " ", "0" * 1488):
                    self.assertEqual(read(text + behind, mode), REFUSED)
        self.assertEqual(read("0" * 511 + "1"), [512, ONE, 0])
        self.assertEqual(read("1" + " " * 511), [1, ONE, 0])
        self.assertEqual(read("-0x" + "0" * 508 + "1"), [512, ONE | SIGN, 0])
        self.assertEqual(read("0." + "0" * 504 + "1e+505"), [512, ONE, 0])
        self.assertEqual(read("1" + "0" * 506 + "e-506"), [512, ONE, 0])

    def test_modes(self):
        for text in ("", "1", "x", "nan"):
            for mode in (5, 6, 2**31, 2**32 - 1):
                self.assertEqual(read(text, mode), REFUSED)
        self.assertEqual(ask(19, 4, 0), [0, ZERO, 0])


class ReadBack(unittest.TestCase):
    """Promise 3."""

    def check(self, a):
        text = show(a, 0, a % 5)
        self.assertEqual(read(text)[:2], [len(text), a])
        text = in_hex(a)
        for mode in MODES:
            self.assertEqual(read(text, mode), [len(text), a, 0])

    def test_edges(self):
        for a in EDGES:
            if a % SIGN <= INF:
                self.check(a)
            else:
                for text in (show(a), in_hex(a)):
                    for mode in MODES:
                        self.assertEqual(read(text, mode), [3, NAN, 0])

    def test_many_numbers(self):
        source = random.Random("read back")
        for turn in range(1500):
            self.check(source.getrandbits(1) << 127 | source.getrandbits(127) % INF)
            self.check(source.getrandbits(1) << 127 | (16383 + source.randrange(-200, 200)) << 112 | source.getrandbits(112))
            self.check(source.getrandbits(1) << 127 | source.getrandbits(source.randrange(1, 114)))

    def test_powers_of_two_and_beside_them(self):
        for e in list(range(-16494, -16370)) + list(range(-300, 301)) + list(range(16370, 16384)) + [-9999, -5000, 5000]:
            for step in (-1, 0, 1):
                self.check(power(e) + step)

    def test_powers_of_ten_and_beside_them(self):
        for n in list(range(-60, 61)) + list(range(-4966, -4920)) + list(range(4900, 4933)):
            a = read("1e%d" % n)[1]
            for step in (-1, 0, 1):
                self.check(a + step if a > 0 else a)


if __name__ == "__main__":
    unittest.main()
