"""Remainder, scale, whole, next and split: from one number to another beside or within it."""

from quadnumbers.parts import FINITE, INFINITE, ZERO, Parts, finite
from quadnumbers.quads import INFINITY, SIGN_BIT, as_quad, has_nan, invalid, nan_answer, parts_of, sign_of, without_sign
from quadnumbers.rounding import NX, TO_EVEN, exponent, is_on_grid, multiple


# Whether the whole number nearest to the quotient, ties to even, is the one above.
def nearest_is_above(quotient, rest, divisor):
    return 2 * rest > divisor or (2 * rest == divisor and quotient % 2 == 1)


def remainder_finite(x, y, how):
    power = min(x.power, y.power)
    dividend = x.size << (x.power - power)
    divisor = y.size << (y.power - power)
    rest = dividend % divisor
    if how == 0 and nearest_is_above(dividend // divisor, rest, divisor):
        return as_quad(finite(1 - x.sign, divisor - rest, power), TO_EVEN)
    return as_quad(finite(x.sign, rest, power), TO_EVEN)


def remainder(a, b, how):
    x = parts_of(a)
    y = parts_of(b)
    if has_nan([x, y]):
        return nan_answer([x, y])
    if x.kind == INFINITE or y.kind == ZERO:
        return invalid()
    if y.kind == INFINITE:
        return [a, 0]
    return remainder_finite(x, y, how)


def scale(a, n, mode):
    x = parts_of(a)
    return as_quad(Parts(x.kind, x.sign, x.size, x.power + n), mode)


def whole(a, exact, mode):
    x = parts_of(a)
    if has_nan([x]):
        return nan_answer([x])
    if x.kind != FINITE or is_on_grid(x.size, x.power, 0):
        return [a, 0]
    count = multiple(x.sign, x.size, x.power, 0, mode)
    bits = as_quad(finite(x.sign, count, 0), TO_EVEN)[0]
    return [bits, NX if exact == 1 else 0]


# Bits of one sign stand in the order of their sizes, so a neighbour's are one more or less;
# the least negative one so comes to -0, the greatest finite one to the infinity.
def above(a):
    if without_sign(a) == 0:
        return 1
    if a == INFINITY:
        return a
    return a - 1 if sign_of(a) == 1 else a + 1


def next_number(a, down):
    x = parts_of(a)
    if has_nan([x]):
        return nan_answer([x])
    if down == 1:
        return [above(a ^ SIGN_BIT) ^ SIGN_BIT, 0]
    return [above(a), 0]


def split_number(a):
    x = parts_of(a)
    if has_nan([x]):
        answer = nan_answer([x])
        return [answer[0], 0, answer[1]]
    if x.kind != FINITE:
        return [a, 0, 0]
    e = exponent(x.size, x.power)
    return [as_quad(finite(x.sign, x.size, x.power - e), TO_EVEN)[0], e, 0]
