"""Sum, difference, product, quotient, root and fused, each rounded once."""

from quadnumbers.parts import FINITE, INFINITE, ZERO, Parts, finite, turned
from quadnumbers.quads import as_quad, has_nan, infinity, invalid, nan_answer, parts_of, zero
from quadnumbers.rounding import DOWN, DZ

# Beyond 114 bits of a quotient or a root, one bit that tells whether anything is left is
# as good as all of it: grids and the middles between their points lie further up.
# So many bits are asked for, and to have them in a root its square is widened by so many.
ENOUGH = 115
WIDENED = 228


def add_infinite(x, y):
    if x.kind == INFINITE and y.kind == INFINITE and x.sign != y.sign:
        return invalid()
    return [infinity(x.sign if x.kind == INFINITE else y.sign), 0]


def zero_sum_sign(x, y, mode):
    if x.kind == ZERO and y.kind == ZERO and x.sign == y.sign:
        return x.sign
    return 1 if mode == DOWN else 0


# A finite number as a count of 2^power, which is not above its own power.
def signed_count(number, power):
    count = number.size << (number.power - power)
    return -count if number.sign == 1 else count


def add(x, y, mode):
    if x.kind == INFINITE or y.kind == INFINITE:
        return add_infinite(x, y)
    power = min(x.power, y.power)
    total = signed_count(x, power) + signed_count(y, power)
    if total == 0:
        return [zero(zero_sum_sign(x, y, mode)), 0]
    return as_quad(finite(1 if total < 0 else 0, abs(total), power), mode)


def is_infinity_by_zero(x, y):
    return (x.kind == INFINITE and y.kind == ZERO) or (x.kind == ZERO and y.kind == INFINITE)


# The exact product, where it is not one of an infinity and a zero.
def product(x, y):
    sign = x.sign ^ y.sign
    if x.kind == INFINITE or y.kind == INFINITE:
        return Parts(INFINITE, sign, 0, 0)
    return finite(sign, x.size * y.size, x.power + y.power)


def multiply(x, y, mode):
    if is_infinity_by_zero(x, y):
        return invalid()
    return as_quad(product(x, y), mode)


# (-1)^sign times top / bottom times 2^power, of which as much is left as rounding may look at.
def ratio(sign, top, bottom, power):
    widened_by = bottom.bit_length() + ENOUGH
    widened = top << widened_by
    left = 1 if widened % bottom > 0 else 0
    return finite(sign, (widened // bottom) * 2 + left, power - widened_by - 1)


def divide(x, y, mode):
    sign = x.sign ^ y.sign
    if x.kind == y.kind and x.kind != FINITE:
        return invalid()
    if x.kind == INFINITE:
        return [infinity(sign), 0]
    if x.kind == ZERO or y.kind == INFINITE:
        return [zero(sign), 0]
    if y.kind == ZERO:
        return [infinity(sign), DZ]
    return as_quad(ratio(sign, x.size, y.size, x.power - y.power), mode)


def op(which, a, b, mode):
    x = parts_of(a)
    y = parts_of(b)
    if has_nan([x, y]):
        return nan_answer([x, y])
    if which == 0:
        return add(x, y, mode)
    if which == 1:
        return add(x, turned(y, 1), mode)
    if which == 2:
        return multiply(x, y, mode)
    return divide(x, y, mode)


# The greatest whole number whose square is not above a whole number from 1 on.
# Newton's steps from above come down to it, and the first that doesn't go down ends there.
def whole_root(square):
    guess = 1 << ((square.bit_length() + 1) // 2)
    better = (guess + square // guess) // 2
    while better < guess:
        guess = better
        better = (guess + square // guess) // 2
    return guess


def root(a, mode):
    x = parts_of(a)
    if has_nan([x]):
        return nan_answer([x])
    if x.kind == ZERO:
        return [a, 0]
    if x.sign == 1:
        return invalid()
    if x.kind == INFINITE:
        return [a, 0]
    # Only an even power of two has a root that is one.
    widened_by = WIDENED + x.power % 2
    square = x.size << widened_by
    found = whole_root(square)
    left = 1 if found * found < square else 0
    return as_quad(finite(0, found * 2 + left, (x.power - widened_by) // 2 - 1), mode)


def fused(a, b, c, how, mode):
    x = parts_of(a)
    y = parts_of(b)
    z = parts_of(c)
    # This comes ahead of a quiet NaN in c, which would raise nothing.
    if is_infinity_by_zero(x, y):
        return invalid()
    if has_nan([x, y, z]):
        return nan_answer([x, y, z])
    return add(turned(product(x, y), how & 1), turned(z, how >> 1), mode)
