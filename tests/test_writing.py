"""Calls 17 and 18, show and hex."""

import decimal
import random
import unittest

from known import (GREATEST, GREATEST_SUBNORMAL, HALF, INF, LEAST, LEAST_NORMAL, MINUS_INF, MINUS_ZERO, MODES, NAN, ONE,
                   QUIET, REFUSED, SIGN, SIGNALING, SIGNALING_TOO, THREE, TWO, ZERO, ask, in_hex, power, quad, read, show)

# By mode, as Python's decimal numbers call it.
ROUNDINGS = (decimal.ROUND_HALF_EVEN, decimal.ROUND_DOWN, decimal.ROUND_FLOOR, decimal.ROUND_CEILING,
             decimal.ROUND_HALF_UP)
EXACTLY = decimal.Context(prec=20000, Emax=99999, Emin=-99999)


def exact_decimal(size, exponent):
    """size 2^exponent with all of its digits."""
    two = decimal.Decimal(2)
    return EXACTLY.multiply(decimal.Decimal(size), EXACTLY.power(two if exponent >= 0 else decimal.Decimal("0.5"),
                                                                 abs(exponent)))


def in_digits(number, digits, mode):
    """What show has to write of a decimal number, reckoned by Python's."""
    context = decimal.Context(prec=digits, rounding=ROUNDINGS[mode], Emax=99999, Emin=-99999)
    sign, shown, exponent = context.plus(number).as_tuple()
    text = "".join(map(str, shown)).ljust(digits, "0")
    place = exponent + len(shown) - 1
    return "-" * sign + text[0] + ("." if digits > 1 else "") + text[1:] + "e" + str(place)


class Words(unittest.TestCase):
    def test_show(self):
        for digits in (0, 1, 2, 36, 1000):
            for mode in MODES:
                for a, text in ((NAN, "nan"), (QUIET, "nan"), (SIGNALING, "nan"), (SIGNALING_TOO, "nan"), (INF, "inf"),
                                (MINUS_INF, "-inf"), (ZERO, "0e0"), (MINUS_ZERO, "-0e0")):
                    self.assertEqual(show(a, digits, mode), text)

    def test_hex(self):
        for a, text in ((NAN, "nan"), (QUIET, "nan"), (SIGNALING, "nan"), (SIGNALING_TOO, "nan"), (INF, "inf"),
                        (MINUS_INF, "-inf"), (ZERO, "0x0p0"), (MINUS_ZERO, "-0x0p0")):
            self.assertEqual(in_hex(a), text)

    def test_how_many_bytes_and_these(self):
        self.assertEqual(ask(17, ONE | SIGN, 3, 0), [7] + list(b"-1.00e0"))
        self.assertEqual(ask(18, HALF), [6] + list(b"0x1p-1"))
        self.assertEqual(ask(18, INF), [3] + list(b"inf"))


class Fewest(unittest.TestCase):
    def check(self, a, text):
        for mode in MODES:
            self.assertEqual(show(a, 0, mode), text)
            self.assertEqual(show(a | SIGN, 0, mode), "-" + text)

    def test_one_digit(self):
        for a, text in ((ONE, "1e0"), (THREE, "3e0"), (HALF, "5e-1"), (quad(10), "1e1"), (quad(10**33), "1e33"),
                        (quad(9), "9e0"), (quad(7 * 10**20), "7e20")):
            self.check(a, text)
        for text in ("1e-1", "9e-1", "1e-2", "3e-4000", "1e-4932", "1e4932", "2e48", "1e48", "9e-4900"):
            self.check(read(text)[1], text)

    def test_some_digits(self):
        for a, text in ((quad(3, -1), "1.5e0"), (quad(1, -10), "9.765625e-4"), (quad(12345), "1.2345e4"),
                        (quad(10**20 + 1), "1.00000000000000000001e20"), (quad(1, -3), "1.25e-1"),
                        (quad(1, 50), "1.125899906842624e15")):
            self.check(a, text)

    def test_the_edges_of_the_format(self):
        self.check(LEAST, "6e-4966")
        self.check(2, "1e-4965")
        self.check(3, "2e-4965")
        self.check(4, "2.6e-4965")
        self.check(GREATEST_SUBNORMAL, "3.362103143112093506262677817321752e-4932")
        self.check(LEAST_NORMAL, "3.3621031431120935062626778173217526e-4932")
        self.check(GREATEST, "1.189731495357231765085759326628007e4932")
        self.check(GREATEST - 1, "1.1897314953572317650857593266280069e4932")
        self.check(ONE + 1, "1.0000000000000000000000000000000002e0")
        self.check(ONE - 1, "9.999999999999999999999999999999999e-1")

    def test_as_many_digits_as_there_can_be(self):
        self.check(quad(1000) + 36, "1.00000000000000000000000000000000355e3")
        self.check(0x4008F46D96C8DA1964B2D2BC815A47C5, "1.00085616408013701103050210501241185e3")
        for a in (quad(1000) + 36, 0x4008F46D96C8DA1964B2D2BC815A47C5):
            for mode in MODES:
                self.assertNotEqual(read(show(a, 35, mode))[1], a)

    def test_two_as_near_the_even_one(self):
        # 2^110 and a quarter, three quarters: .2 and .3, .7 and .8 are as near, and all are read as the number.
        self.check(power(110) + 1, "1.2980742146337069071326240823050242e33")
        self.check(power(110) + 3, "1.2980742146337069071326240823050248e33")
        self.assertEqual(read("1.2980742146337069071326240823050243e33")[1], power(110) + 1)
        self.assertEqual(read("1.2980742146337069071326240823050247e33")[1], power(110) + 3)
        for step in range(20):
            whole = str(2**110 + step)
            self.check(power(110) + 4 * step + 1, whole[0] + "." + whole[1:] + "2e33")
            self.check(power(110) + 4 * step + 3, whole[0] + "." + whole[1:] + "8e33")

    def test_powers_of_two_lie_nearer_to_what_is_below(self):
        # The nearest text of that many digits lies below and is read as another number.
        for e, text, nearest in ((202, "6.427752177035961102167848369364651e60", "6.427752177035961102167848369364650e60"),
                                 (-107, "6.162975822039154729779129416271768e-33",
                                  "6.162975822039154729779129416271767e-33"),
                                 (192, "6.277101735386680763835789423207667e57",
                                  "6.277101735386680763835789423207666e57")):
            self.check(power(e), text)
            self.assertEqual(show(power(e), 34, 0), nearest)
            self.assertEqual(read(nearest)[1], power(e) - 1)
        # Of two as near the even one is read as another number here, so it's the odd one.
        self.check(power(-50), "8.881784197001252323389053344726563e-16")
        self.assertEqual(show(power(-50), 35, 0), "8.8817841970012523233890533447265625e-16")
        self.assertEqual(read("8.881784197001252323389053344726562e-16")[1], power(-50) - 1)

    def test_the_ends_of_what_is_read_as_a_number(self):
        # 10^49 and the others have 114 bits, so they lie in the middle of two numbers and are read as the even one.
        sides = []
        for text in ("1e49", "3e48", "1.7e48", "1.9e48", "2.1e48", "2.3e48", "2.7e48", "2.9e48", "3.1e47", "5.7e47"):
            digits, mark, exponent = text.partition("e")
            whole = int(digits.replace(".", "")) * 10**(int(exponent) - len(digits.partition(".")[2]))
            odd = whole
            while odd % 2 == 0:
                odd = odd // 2
            if odd.bit_length() == 114:
                used, a, flags = read(text)
                self.assertEqual((a % 2, flags), (0, 1))
                self.check(a, text)
                low, high = read(text, 2)[1], read(text, 3)[1]
                self.assertEqual(high, low + 1)
                self.assertNotEqual(show(low + high - a), text)
                sides.append(a == low)
        # Both ends are among them.
        self.assertEqual(set(sides), {True, False})

    def test_ties_are_read_as_the_even_number(self):
        # 2^114 + 2, in the middle of two numbers, is read as the lower one, which is even; 2^114 + 6 as the upper one.
        middle, upper = 2**114 + 2, 2**114 + 6
        self.assertEqual(read(str(middle)), [35, power(114), 1])
        self.assertEqual(read(str(upper)), [35, power(114) + 2, 1])

    def test_the_fewest_digits_are_read_back_and_fewer_are_not(self):
        source = random.Random("fewest")
        for turn in range(300):
            a = source.getrandbits(127) % INF
            text = show(a)
            self.assertEqual(read(text)[:2], [len(text), a])
            digits = len(text.partition("e")[0].replace(".", ""))
            self.assertLessEqual(digits, 36)
            if digits > 1:
                for mode in (2, 3):
                    self.assertNotEqual(read(show(a, digits - 1, mode))[1], a)


class Digits(unittest.TestCase):
    def by_modes(self, a, digits, found):
        self.assertEqual([show(a, digits, mode) for mode in MODES], list(found))
        mirrored = ["-" + found[mode] for mode in (0, 1, 3, 2, 4)]
        self.assertEqual([show(a | SIGN, digits, mode) for mode in MODES], mirrored)

    def test_exact(self):
        self.by_modes(ONE, 1, ["1e0"] * 5)
        self.by_modes(ONE, 5, ["1.0000e0"] * 5)
        self.by_modes(quad(1, -10), 7, ["9.765625e-4"] * 5)
        self.by_modes(quad(1, -10), 9, ["9.76562500e-4"] * 5)
        self.by_modes(quad(10**30), 3, ["1.00e30"] * 5)
        self.by_modes(TWO, 1000, ["2." + "0" * 999 + "e0"] * 5)

    def test_ties(self):
        self.by_modes(quad(1, -10), 6, ("9.76562e-4", "9.76562e-4", "9.76562e-4", "9.76563e-4", "9.76563e-4"))
        self.by_modes(quad(375, -3), 4, ("4.688e1", "4.687e1", "4.687e1", "4.688e1", "4.688e1"))
        self.by_modes(quad(25), 1, ("2e1", "2e1", "2e1", "3e1", "3e1"))
        self.by_modes(quad(35), 1, ("4e1", "3e1", "3e1", "4e1", "4e1"))
        self.by_modes(quad(35) + 1, 1, ("4e1", "3e1", "3e1", "4e1", "4e1"))
        self.by_modes(quad(25) + 1, 1, ("3e1", "2e1", "2e1", "3e1", "3e1"))
        self.by_modes(quad(35) - 1, 1, ("3e1", "3e1", "3e1", "4e1", "3e1"))

    def test_up_to_the_next_power_of_ten(self):
        self.by_modes(quad(95), 1, ("1e2", "9e1", "9e1", "1e2", "1e2"))
        self.by_modes(quad(95) - 1, 1, ("9e1", "9e1", "9e1", "1e2", "9e1"))
        self.by_modes(quad(9996), 3, ("1.00e4", "9.99e3", "9.99e3", "1.00e4", "1.00e4"))
        self.by_modes(quad(9991), 3, ("9.99e3", "9.99e3", "9.99e3", "1.00e4", "9.99e3"))
        one, below = "1." + "0" * 32 + "e0", "9." + "9" * 32 + "e-1"
        self.by_modes(ONE - 1, 33, (one, below, below, one, one))
        self.by_modes(ONE - 1, 1, ("1e0", "9e-1", "9e-1", "1e0", "1e0"))

    def test_powers_of_ten_and_beside_them(self):
        for n in (1, 2, 22, 30, 48):
            ten = quad(10**n)
            self.assertEqual(show(ten, 1, 1), "1e" + str(n))
            self.assertEqual(show(ten - 1, 2, 1), "9.9e" + str(n - 1))
            self.assertEqual(show(ten - 1, 2, 3), "1.0e" + str(n))
            self.assertEqual(show(ten + 1, 2, 1), "1.0e" + str(n))
            self.assertEqual(show(ten + 1, 2, 3), "1.1e" + str(n))

    def test_the_edges_of_the_format(self):
        self.by_modes(LEAST, 1, ("6e-4966", "6e-4966", "6e-4966", "7e-4966", "6e-4966"))
        self.by_modes(LEAST, 5, ("6.4752e-4966", "6.4751e-4966", "6.4751e-4966", "6.4752e-4966", "6.4752e-4966"))
        self.by_modes(GREATEST, 2, ("1.2e4932", "1.1e4932", "1.1e4932", "1.2e4932", "1.2e4932"))
        self.by_modes(LEAST_NORMAL, 3, ("3.36e-4932", "3.36e-4932", "3.36e-4932", "3.37e-4932", "3.36e-4932"))

    def test_as_decimal_numbers_are_rounded(self):
        source = random.Random("digits")
        sizes = [(1, -16494), (2**112 - 1, -16494), (1, -16382), (2**113 - 1, 16271), (1, 0), (2**113 - 1, -113),
                 (1, -1000), (1, 1000), (5**48, 0), (5**48, 48), (10**34 - 1, 0), (2**113 - 1, -1000)]
        sizes += [(source.getrandbits(112) | 1, source.randrange(-16494, 16272)) for turn in range(40)]
        sizes += [(source.getrandbits(112) | 1, source.randrange(-180, 60)) for turn in range(40)]
        for size, exponent in sizes:
            number = exact_decimal(size, exponent)
            several = (1, 2, 17, 33, 34, 35, 36, 37, 100, 999, 1000, source.randrange(1, 1001))
            for digits in several:
                for mode in MODES:
                    self.assertEqual(show(quad(size, exponent), digits, mode), in_digits(number, digits, mode))
                    minus = EXACTLY.minus(number)
                    self.assertEqual(show(quad(-size, exponent), digits, mode), in_digits(minus, digits, mode))

    def test_more_digits_are_refused(self):
        for a in (ONE, ZERO, INF, NAN, SIGNALING):
            for mode in MODES:
                self.assertNotEqual(ask(17, a, 1000, mode), REFUSED)
                for digits in (1001, 1024, 65536, 2**32 - 1):
                    self.assertEqual(ask(17, a, digits, mode), REFUSED)
            for digits in (0, 1, 1000):
                self.assertEqual(ask(17, a, digits, 5), REFUSED)


class Hexadecimal(unittest.TestCase):
    def check(self, a, text):
        self.assertEqual(in_hex(a), text)
        self.assertEqual(in_hex(a | SIGN), "-" + text)

    def test_no_fraction(self):
        for e in (0, 1, -1, 10, -10, 16383, -16382, -16383, -16494):
            self.check(power(e), "0x1p" + str(e))

    def test_fractions(self):
        self.check(THREE, "0x1.8p1")
        self.check(quad(5), "0x1.4p2")
        self.check(quad(0x1ABCDEF, -24), "0x1.abcdefp0")
        self.check(quad(0x11, -4), "0x1.1p0")
        self.check(quad(0x1001, -12), "0x1.001p0")
        self.check(quad(0x101, -8), "0x1.01p0")
        self.check(quad(3, -2), "0x1.8p-1")

    def test_whole_fractions(self):
        self.check(ONE + 1, "0x1." + "0" * 27 + "1p0")
        self.check(TWO - 1, "0x1." + "f" * 28 + "p0")
        self.check(GREATEST, "0x1." + "f" * 28 + "p16383")
        self.check(ONE | 0x123456789ABCDEF0123456789ABC, "0x1.123456789abcdef0123456789abcp0")
        self.check(ONE | 0xFEDCBA9876543210FEDCBA987654, "0x1.fedcba9876543210fedcba987654p0")

    def test_subnormal_numbers(self):
        self.check(LEAST, "0x1p-16494")
        self.check(2, "0x1p-16493")
        self.check(3, "0x1.8p-16493")
        self.check(GREATEST_SUBNORMAL, "0x1." + "f" * 27 + "ep-16383")
        self.check(LEAST_NORMAL + 1, "0x1." + "0" * 27 + "1p-16382")

    def test_doubles_as_python_writes_them(self):
        source = random.Random("hex")
        for turn in range(1000):
            size, exponent = source.getrandbits(52) << 1 | 1, source.randrange(-1000, 900)
            mantissa, mark, shown = (size * 2.0**exponent).hex().partition("p")
            asked = mantissa.rstrip("0").rstrip(".") + "p" + str(int(shown))
            self.assertEqual(in_hex(quad(size, exponent)), asked)


if __name__ == "__main__":
    unittest.main()
