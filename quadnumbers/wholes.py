"""Whole numbers of ten sorts: quadruple numbers from them, and they from these."""

from quadnumbers.parts import INFINITE, finite, ones
from quadnumbers.quads import as_quad, is_nan, parts_of
from quadnumbers.rounding import NV, NX, is_on_grid, multiple


# Two sorts have as many bits: an even one with a sign, the odd one behind it without.
def width(sort):
    return 8 << (sort // 2)


def has_sign(sort):
    return sort % 2 == 0


def least(sort):
    return -(1 << (width(sort) - 1)) if has_sign(sort) else 0


def greatest(sort):
    return ones(width(sort) - 1) if has_sign(sort) else ones(width(sort))


def as_sort(sort, v):
    low = v & ones(width(sort))
    return low - (1 << width(sort)) if low > greatest(sort) else low


def of_whole(sort, v, mode):
    value = as_sort(sort, v)
    return as_quad(finite(1 if value < 0 else 0, abs(value), 0), mode)


def modulo(value):
    return value & ones(128)


def beyond(sort, is_below):
    return [modulo(least(sort) if is_below else greatest(sort)), NV]


def to_whole(sort, a, mode):
    number = parts_of(a)
    if is_nan(number):
        return beyond(sort, False)
    if number.kind == INFINITE:
        return beyond(sort, number.sign == 1)
    size = multiple(number.sign, number.size, number.power, 0, mode)
    value = -size if number.sign == 1 else size
    if value < least(sort) or value > greatest(sort):
        return beyond(sort, value < 0)
    return [modulo(value), 0 if is_on_grid(number.size, number.power, 0) else NX]
