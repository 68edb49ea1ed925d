"""Exact sums: sum, dot, poly, and the accumulators."""

from quadnumbers.arithmetic import fused, is_infinity_by_zero, product, signed_count
from quadnumbers.parts import INFINITE, QUIET, SIGNALING, ZERO, Parts, finite
from quadnumbers.quads import CANONICAL_NAN, as_quad, has_nan, infinity, invalid, parts_of, zero
from quadnumbers.rounding import DOWN

# All numbers and products of two are multiples of 2 to this, the square of the least subnormal number.
LOWEST = -32988

MOST_TERMS = 4294967295

# What stands among the terms of a sum, each told by one bit; signs turn the first of a pair to the second.
PLUS_ZERO = 1
MINUS_ZERO = 2
OTHER_THAN_ZERO = 4
PLUS_INFINITY = 8
MINUS_INFINITY = 16
NAN = 32
RAISING = 64


# An accumulator would have more terms than it may.
class TooMany(ValueError):
    pass


# How many terms there are, the finite ones' sum as a count of 2^LOWEST, and what stands among them.
# It is never changed: with more terms it is another one, so one can be added to itself.
class Sum:
    def __init__(self, terms, total, seen):
        self.terms = terms
        self.total = total
        self.seen = seen


def no_terms():
    return Sum(0, 0, 0)


def one_term(number):
    if number.kind == SIGNALING:
        return Sum(1, 0, NAN | RAISING)
    if number.kind == QUIET:
        return Sum(1, 0, NAN)
    if number.kind == INFINITE:
        return Sum(1, 0, PLUS_INFINITY << number.sign)
    if number.kind == ZERO:
        return Sum(1, 0, PLUS_ZERO << number.sign)
    return Sum(1, signed_count(number, LOWEST), OTHER_THAN_ZERO)


def number_term(a):
    return one_term(parts_of(a))


def product_term(a, b):
    x = parts_of(a)
    y = parts_of(b)
    # A product of an infinity and a zero raises in a sum what a signaling NaN does.
    if is_infinity_by_zero(x, y) or x.kind == SIGNALING or y.kind == SIGNALING:
        return one_term(Parts(SIGNALING, 0, 0, 0))
    if has_nan([x, y]):
        return one_term(Parts(QUIET, 0, 0, 0))
    return one_term(product(x, y))


def together(one, other):
    if one.terms + other.terms > MOST_TERMS:
        raise TooMany()
    return Sum(one.terms + other.terms, one.total + other.total, one.seen | other.seen)


def zero_sign(seen, mode):
    if seen == 0 or seen == PLUS_ZERO:
        return 0
    if seen == MINUS_ZERO:
        return 1
    return 1 if mode == DOWN else 0


def rounded(one, mode):
    infinities = one.seen & (PLUS_INFINITY | MINUS_INFINITY)
    if one.seen & RAISING > 0 or infinities == PLUS_INFINITY | MINUS_INFINITY:
        return invalid()
    if one.seen & NAN > 0:
        return [CANONICAL_NAN, 0]
    if infinities > 0:
        return [infinity(1 if infinities == MINUS_INFINITY else 0), 0]
    if one.total == 0:
        return [zero(zero_sign(one.seen, mode)), 0]
    return as_quad(finite(1 if one.total < 0 else 0, abs(one.total), LOWEST), mode)


def sum_of(mode, row):
    result = no_terms()
    for a in row:
        result = together(result, number_term(a))
    return rounded(result, mode)


def dot(mode, row, other):
    result = no_terms()
    for a, b in zip(row, other):
        result = together(result, product_term(a, b))
    return rounded(result, mode)


def poly(x, mode, row):
    if len(row) == 0:
        return [zero(0), 0]
    y = row[-1]
    flags = 0
    for place in range(len(row) - 2, -1, -1):
        step = fused(y, x, row[place], 0, mode)
        y = step[0]
        flags = flags | step[1]
    return [y, flags]


# The four sums that are kept from call to call.
class Accumulators:
    def __init__(self):
        self.sums = [no_terms(), no_terms(), no_terms(), no_terms()]

    def empty(self, k):
        self.sums[k] = no_terms()

    def put(self, k, more):
        self.sums[k] = together(self.sums[k], more)
