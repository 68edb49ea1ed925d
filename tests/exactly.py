"""The calls 0 to 16 reckoned anew with exact fractions, after the document's words.

Nothing here comes from the package. A number is a pair: a word ("number", "infinity", "quiet",
"signaling") and its sign, with the fraction behind them for a number.
"""

from fractions import Fraction
from functools import lru_cache
from math import floor, isqrt

NX, UF, OF, DZ, NV = 1, 2, 4, 8, 16
NAN = int("0" + "1" * 16 + "0" * 111, 2)
WIDTHS = {0: (5, 10), 1: (8, 23), 2: (11, 52)}


@lru_cache(maxsize=None)
def two(exponent):
    return Fraction(2**exponent) if exponent >= 0 else Fraction(1, 2**-exponent)


def decode(bits, exponent_bits=15, fraction_bits=112):
    text = bin(bits)[2:].zfill(1 + exponent_bits + fraction_bits)
    negative = text[0] == "1"
    field, fraction = text[1:1 + exponent_bits], text[1 + exponent_bits:]
    bias = 2**(exponent_bits - 1) - 1
    if "0" not in field:
        if "1" not in fraction:
            return ("infinity", negative)
        return ("quiet" if fraction[0] == "1" else "signaling", negative)
    hidden = 2**fraction_bits if "1" in field else 0
    size = (hidden + int(fraction, 2)) * two(max(1, int(field, 2)) - bias - fraction_bits)
    return ("number", negative, -size if negative else size)


def decode_extended(bits):
    significand, field, negative = bits % 2**64, bits // 2**64 % 2**15, bits // 2**79 == 1
    topped = significand >= 2**63
    if field == 32767 and topped:
        if significand == 2**63:
            return ("infinity", negative)
        return ("quiet" if significand // 2**62 == 3 else "signaling", negative)
    if field > 0 and not topped:
        return ("signaling", negative)
    size = significand * two(field - 16446 if field > 0 else -16445)
    return ("number", negative, -size if negative else size)


def zero(negative):
    return 2**127 if negative else 0


def infinity(negative):
    return zero(negative) + 32767 * 2**112


def log_two(size):
    """The integer e with 2^e <= size < 2^(e+1)."""
    e = size.numerator.bit_length() - size.denominator.bit_length()
    return e if two(e) <= size else e - 1


def neighbour(r, unit, mode):
    """The multiple of unit that the mode says, as a whole number of units."""
    count = r / unit
    low = floor(count)
    beyond = count - low
    if beyond == 0:
        return low
    if mode == 1:
        return low if r > 0 else low + 1
    if mode == 2:
        return low
    if mode == 3:
        return low + 1
    if beyond != Fraction(1, 2):
        return low if beyond < Fraction(1, 2) else low + 1
    if mode == 4:
        return low if r < 0 else low + 1
    return low if low % 2 == 0 else low + 1


def encode(size, negative):
    """The bits of a size that is a number of the format."""
    if size == 0:
        return zero(negative)
    if size < two(-16382):
        count, field = size / two(-16494), 0
    else:
        field = log_two(size) + 16383
        count = size / two(field - 16383 - 112) - 2**112
    if count.denominator != 1 or not 0 <= count < 2**112 or field > 32766:
        raise AssertionError("no number of the format")
    return zero(negative) + field * 2**112 + count.numerator


def rounding(r, mode, bias, fraction_bits):
    """The size that r is rounded to, None for an infinity, and the flags."""
    if r == 0:
        raise AssertionError("zeros have their signs from elsewhere")
    e = log_two(abs(r))
    unit = two(max(e, 1 - bias) - fraction_bits)
    near = neighbour(r, unit, mode) * unit
    if abs(near) >= two(bias + 1):
        finite = mode == 1 or (mode == 2 and r > 0) or (mode == 3 and r < 0)
        return (2 - two(-fraction_bits)) * two(bias) if finite else None, OF + NX
    flags = 0
    if near != r:
        flags = NX
        fine = two(e - fraction_bits)
        if abs(neighbour(r, fine, mode) * fine) < two(1 - bias):
            flags = NX + UF
    return abs(near), flags


def rounded(r, mode):
    size, flags = rounding(r, mode, 16383, 112)
    return [infinity(r < 0) if size is None else encode(size, r < 0), flags]


def words(*numbers):
    return [number[0] for number in numbers]


def nan_of(*numbers):
    """The answer that NaNs among the operands make, or None."""
    if "signaling" in words(*numbers):
        return [NAN, NV]
    if "quiet" in words(*numbers):
        return [NAN, 0]
    return None


def is_zero(number):
    return number[0] == "number" and number[2] == 0


def negated(number, turn=True):
    if not turn:
        return number
    return (number[0], not number[1]) + tuple(-value for value in number[2:])


def total(x, y, mode):
    if x[0] == "infinity" or y[0] == "infinity":
        signs = {number[1] for number in (x, y) if number[0] == "infinity"}
        return [NAN, NV] if len(signs) == 2 else [infinity(signs.pop()), 0]
    if x[2] + y[2] != 0:
        return rounded(x[2] + y[2], mode)
    if is_zero(x) and is_zero(y) and x[1] == y[1]:
        return [zero(x[1]), 0]
    return [zero(mode == 2), 0]


def times(x, y):
    """The exact product, "signaling" standing for that of an infinity and a zero."""
    negative = x[1] != y[1]
    if x[0] == "infinity" or y[0] == "infinity":
        return ("signaling" if is_zero(x) or is_zero(y) else "infinity", negative)
    return ("number", negative, x[2] * y[2])


def told(number, mode):
    if number[0] == "infinity":
        return [infinity(number[1]), 0]
    if number[0] == "number" and number[2] != 0:
        return rounded(number[2], mode)
    return [zero(number[1]), 0] if number[0] == "number" else nan_of(number)


def quotient(x, y, mode):
    negative = x[1] != y[1]
    if x[0] == "infinity":
        return [NAN, NV] if y[0] == "infinity" else [infinity(negative), 0]
    if is_zero(x) and is_zero(y):
        return [NAN, NV]
    if is_zero(y):
        return [infinity(negative), DZ]
    if is_zero(x) or y[0] == "infinity":
        return [zero(negative), 0]
    return rounded(x[2] / y[2], mode)


def op(which, a, b, mode):
    x, y = decode(a), decode(b)
    if nan_of(x, y):
        return nan_of(x, y)
    if which < 2:
        return total(x, negated(y, which == 1), mode)
    return told(times(x, y), mode) if which == 2 else quotient(x, y, mode)


def root(a, mode):
    x = decode(a)
    if nan_of(x):
        return nan_of(x)
    if is_zero(x):
        return [a, 0]
    if x[1]:
        return [NAN, NV]
    if x[0] == "infinity":
        return [a, 0]
    # The root is looked for on its own grid, which has no subnormal part.
    e = log_two(x[2]) // 2
    unit = two(e - 112)
    squared = x[2] / (unit * unit)
    low = isqrt(squared.numerator // squared.denominator)
    if low * low == squared:
        return [encode(low * unit, False), 0]
    middle = Fraction(2 * low + 1, 2)**2
    if middle == squared:
        raise AssertionError("no root lies in the middle of 113 bits")
    upward = mode == 3 or (mode in (0, 4) and squared > middle)
    return [encode((low + upward) * unit, False), NX]


def fused(a, b, c, how, mode):
    x, y, z = decode(a), decode(b), decode(c)
    if "signaling" in words(x, y, z):
        return [NAN, NV]
    plain = "quiet" not in words(x, y)
    if plain and times(x, y)[0] == "signaling":
        return [NAN, NV]
    if "quiet" in words(x, y, z):
        return [NAN, 0]
    return total(negated(times(x, y), how in (1, 3)), negated(z, how in (2, 3)), mode)


def remainder(a, b, how):
    x, y = decode(a), decode(b)
    if nan_of(x, y):
        return nan_of(x, y)
    if x[0] == "infinity" or is_zero(y):
        return [NAN, NV]
    if y[0] == "infinity":
        return [a, 0]
    n = neighbour(x[2] / y[2], 1, 1 if how == 1 else 0)
    rest = x[2] - y[2] * n
    return [encode(abs(rest), x[1] if rest == 0 else rest < 0), 0]


def scale(a, n, mode):
    x = decode(a)
    return told((x[0], x[1], x[2] * two(n)) if x[0] == "number" else x, mode)


def whole(a, exact, mode):
    x = decode(a)
    if x[0] != "number":
        return told(x, mode)
    near = neighbour(x[2], 1, mode)
    return [encode(Fraction(abs(near)), x[1]), NX if exact and near != x[2] else 0]


def beside(a, down):
    """Call 6, next."""
    x = decode(a)
    if nan_of(x):
        return nan_of(x)
    if x[0] == "infinity":
        if x[1] == bool(down):
            return [a, 0]
        return [encode((2**113 - 1) * two(16383 - 112), x[1]), 0]
    if x[2] == 0:
        return [encode(two(-16494), bool(down)), 0]
    # The step below a power of two is half of that above it.
    inward = x[1] != bool(down)
    size = abs(x[2])
    unit = two(max(log_two(size), -16382) - 112)
    if inward:
        nearer = size - unit / 2
        return [encode(nearer if log_two(size) > -16382 and log_two(nearer) < log_two(size)
                       and size == two(log_two(size)) else size - unit, x[1]), 0]
    if size + unit == two(16384):
        return [infinity(x[1]), 0]
    return [encode(size + unit, x[1]), 0]


def split(a):
    x = decode(a)
    if nan_of(x):
        return [NAN, 0, nan_of(x)[1]]
    if x[0] == "infinity" or x[2] == 0:
        return [a, 0, 0]
    e = log_two(abs(x[2]))
    return [encode(abs(x[2]) / two(e), x[1]), e, 0]


def key(number):
    """Where a number that's no NaN stands among the others."""
    if number[0] == "infinity":
        return -two(20000) if number[1] else two(20000)
    return number[2]


def pick(a, b, which):
    x, y = decode(a), decode(b)
    flags = NV if "signaling" in words(x, y) else 0
    fit = [bits for bits, number in ((a, x), (b, y)) if nan_of(number) is None]
    if len(fit) < 2:
        return [fit[0] if fit else NAN, flags]
    if key(x) == key(y):
        return [(max if which == 0 else min)(a, b), flags]
    return [a if (key(x) < key(y)) == (which == 0) else b, flags]


def sign(a, b, how):
    mine, its = a // 2**127, b // 2**127
    put = (its, 1 - its, (mine + its) % 2)[how]
    return [a % 2**127 + put * 2**127, 0]


def compare(a, b, kind):
    x, y = decode(a), decode(b)
    if nan_of(x, y):
        return [0, NV if kind in (1, 2) or "signaling" in words(x, y) else 0]
    less, equal = key(x) < key(y), key(x) == key(y)
    return [int((equal, less, less or equal, less, less or equal)[kind]), 0]


def order(a, b):
    if a == b:
        return [0]
    if a // 2**127 != b // 2**127:
        return [-1 if a // 2**127 == 1 else 1]
    return [-1 if (a < b) == (a // 2**127 == 0) else 1]


def class_of(a):
    x = decode(a)
    if nan_of(x):
        return [2**8 if x[0] == "signaling" else 2**9]
    if x[0] == "infinity":
        return [2**0 if x[1] else 2**7]
    if x[2] == 0:
        return [2**3 if x[1] else 2**4]
    if abs(x[2]) < two(-16382):
        return [2**2 if x[1] else 2**5]
    return [2**1 if x[1] else 2**6]


def from_other(form, bits):
    return told(decode_extended(bits) if form == 3 else decode(bits, *WIDTHS[form]), 0)


def encode_other(form, size, negative):
    """The bits of a size that is a number of the format, or of an infinity."""
    if form == 3:
        bias, fraction_bits, exponent_bits = 16383, 63, 15
    else:
        exponent_bits, fraction_bits = WIDTHS[form]
        bias = 2**(exponent_bits - 1) - 1
    if size is None:
        field, count = 2 * bias + 1, 2**fraction_bits
    elif size < two(1 - bias):
        field, count = 0, size / two(1 - bias - fraction_bits)
    else:
        field = log_two(size) + bias
        count = size / two(field - bias - fraction_bits)
    if Fraction(count).denominator != 1:
        raise AssertionError("no number of the format")
    if form != 3 and field > 0:
        count = count - 2**fraction_bits
    place = 64 if form == 3 else fraction_bits
    return int(count) + field * 2**place + negative * 2**(place + exponent_bits)


def to_other(form, a, mode):
    x = decode(a)
    if nan_of(x):
        nan = int("0" + {0: "1" * 6 + "0" * 9, 1: "1" * 9 + "0" * 22, 2: "1" * 12 + "0" * 51,
                         3: "1" * 17 + "0" * 62}[form], 2)
        return [nan, nan_of(x)[1]]
    if x[0] == "infinity":
        return [encode_other(form, None, x[1]), 0]
    if x[2] == 0:
        return [encode_other(form, x[2], x[1]), 0]
    bias, fraction_bits = ((15, 10), (127, 23), (1023, 52), (16383, 63))[form]
    size, flags = rounding(x[2], mode, bias, fraction_bits)
    return [encode_other(form, size, x[1]), flags]


def of_whole(sort, v, mode):
    count = (1, 1, 2, 2, 4, 4, 8, 8, 16, 16)[sort]
    low = v.to_bytes(16, "little")[:count]
    value = int.from_bytes(low, "little", signed=sort % 2 == 0)
    return rounded(Fraction(value), mode) if value != 0 else [0, 0]


def to_whole(sort, a, mode):
    bits = (8, 8, 16, 16, 32, 32, 64, 64, 128, 128)[sort]
    low, high = (-2**(bits - 1), 2**(bits - 1) - 1) if sort % 2 == 0 else (0, 2**bits - 1)
    x = decode(a)
    if nan_of(x) or key(x) > high + 1:
        return [high, NV]
    if key(x) < low - 1:
        return [low % 2**128, NV]
    near = neighbour(x[2], 1, mode)
    if low <= near <= high:
        return [near % 2**128, 0 if near == x[2] else NX]
    return [(low if near < low else high) % 2**128, NV]


CALLS = (op, root, fused, remainder, scale, whole, beside, split, pick, sign, compare, order, class_of, from_other,
         to_other, of_whole, to_whole)


def ask(number, *numbers):
    return CALLS[number](*numbers)
