"""The calls show, hex and read reckoned anew with exact fractions, after the document's words.

Nothing here comes from the package.
"""

import re
from fractions import Fraction
from functools import lru_cache

from exactly import NAN, decode, infinity, log_two, nan_of, neighbour, rounded, two, zero

DECIMAL = re.compile(rb"([+-]?)(([0-9]+\.?[0-9]*|\.[0-9]+)(e[+-]?[0-9]+)?)")
HEXADECIMAL = re.compile(rb"([+-]?)0x(([0-9a-f]+)\.?([0-9a-f]*)|\.([0-9a-f]+))(p[+-]?[0-9]+)?")
WORD = re.compile(rb"([+-]?)(infinity|inf|nan)")


@lru_cache(maxsize=None)
def ten(exponent):
    return Fraction(10**exponent) if exponent >= 0 else Fraction(1, 10**-exponent)


def log_ten(size):
    """The integer x with 10^x <= size < 10^(x+1)."""
    x = (log_two(size) * 301) // 1000
    while ten(x) > size:
        x -= 1
    while ten(x + 1) <= size:
        x += 1
    return x


def special(x, zero_text):
    if nan_of(x):
        return "nan"
    return ("-" if x[1] else "") + ("inf" if x[0] == "infinity" else zero_text)


def written(count, digits, unit_exponent):
    """A size that is a count of a power of ten, in so many digits."""
    while count >= 10**digits:
        if count % 10 != 0:
            raise AssertionError("a digit is lost")
        count, unit_exponent = count // 10, unit_exponent + 1
    text = str(count)
    if len(text) != digits:
        raise AssertionError("a digit is missing")
    return text[0] + ("." + text[1:] if digits > 1 else "") + "e" + str(unit_exponent + digits - 1)


def fitting(a, size, digits):
    """The counts near a size, in so many digits, that are read as a: how far, whether odd, which."""
    unit = log_ten(size) - digits + 1
    low = int(size / ten(unit))
    found = [(count, count * ten(unit)) for count in range(max(low - 1, 1), low + 3)]
    return [(abs(value - size), count % 10 % 2, count) for count, value in found if rounded(value, 0)[0] == a]


def shortest(a, size):
    """Of all texts of the fewest digits that are read as a: the nearest, the even one of two."""
    # A text has all of its fellows with zeros behind it, so where some fit, more digits fit too.
    none, some = 0, 40
    while some - none > 1:
        middle = (none + some) // 2
        if fitting(a, size, middle):
            some = middle
        else:
            none = middle
    return written(min(fitting(a, size, some))[2], some, log_ten(size) - some + 1)


def show(a, digits, mode):
    x = decode(a)
    if x[0] != "number" or x[2] == 0:
        return special(x, "0e0")
    minus = "-" if x[1] else ""
    if digits == 0:
        return minus + shortest(a % 2**127, abs(x[2]))
    unit = log_ten(abs(x[2])) - digits + 1
    return minus + written(abs(neighbour(x[2], ten(unit), mode)), digits, unit)


def hexadecimal(a):
    x = decode(a)
    if x[0] != "number" or x[2] == 0:
        return special(x, "0x0p0")
    e = log_two(abs(x[2]))
    fraction = (abs(x[2]) / two(e) - 1) * 16**28
    if fraction.denominator != 1:
        raise AssertionError("more than 28 digits")
    digits = "{:028x}".format(fraction.numerator)
    while digits.endswith("0"):
        digits = digits[:-1]
    return ("-" if x[1] else "") + "0x1" + ("." if digits else "") + digits + "p" + str(e)


def far(size_of, exponent, digits):
    """The value, or one that is rounded alike where it is too far out to reckon with."""
    if digits.strip(b"0.") == b"":
        return Fraction(0)
    if abs(exponent) > 30000:
        return two(20000 if exponent > 0 else -20000)
    return size_of()


def value_of(text):
    """The value of a whole number's text that is no word."""
    one = HEXADECIMAL.fullmatch(text)
    if one:
        whole, behind = one.group(3) or b"", one.group(4) or one.group(5) or b""
        exponent = int((one.group(6) or b"p0")[1:])
        return far(lambda: int(whole + behind, 16) * two(exponent - 4 * len(behind)), exponent, whole + behind)
    one = DECIMAL.fullmatch(text)
    exponent = int((one.group(4) or b"e0")[1:])
    return far(lambda: Fraction(one.group(2).decode()), exponent, one.group(3))


def read(mode, row):
    text = bytes(row)
    for used in range(len(text), 0, -1):
        beginning = text[:used]
        negative = beginning.startswith(b"-")
        if WORD.fullmatch(beginning):
            return [used, NAN if beginning.endswith(b"nan") else infinity(negative), 0]
        if DECIMAL.fullmatch(beginning) or HEXADECIMAL.fullmatch(beginning):
            size = value_of(beginning)
            if size == 0:
                return [used, zero(negative), 0]
            return [used] + rounded(-size if negative else size, mode)
    return [0, 0, 0]
