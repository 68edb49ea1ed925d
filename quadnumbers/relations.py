"""Pick, sign, compare, order and class: numbers beside one another, none of them rounded."""

from quadnumbers.parts import INFINITE, SIGNALING, ZERO
from quadnumbers.quads import CANONICAL_NAN, SIGN_BIT, has_nan, is_nan, nan_flags, parts_of, sign_of, without_sign
from quadnumbers.rounding import NV


# Where bits stand in the order of all bit patterns, -0 right before +0.
def place(bits):
    return -1 - without_sign(bits) if sign_of(bits) == 1 else without_sign(bits)


# As place, but with the two zeros at one place: so numbers stand that are no NaN.
def height(bits):
    return -without_sign(bits) if sign_of(bits) == 1 else without_sign(bits)


def picked(a, b, which):
    x = parts_of(a)
    y = parts_of(b)
    if is_nan(x) and is_nan(y):
        return CANONICAL_NAN
    if is_nan(x):
        return b
    if is_nan(y):
        return a
    if which == 0:
        return a if place(a) < place(b) else b
    return a if place(a) > place(b) else b


def pick(a, b, which):
    return [picked(a, b, which), nan_flags([parts_of(a), parts_of(b)])]


def with_sign(a, b, how):
    if how == 0:
        return [without_sign(a) | (b & SIGN_BIT), 0]
    if how == 1:
        return [without_sign(a) | (~b & SIGN_BIT), 0]
    return [a ^ (b & SIGN_BIT), 0]


def compare_nan(numbers, kind):
    return [0, NV if kind == 1 or kind == 2 else nan_flags(numbers)]


def compare(a, b, kind):
    numbers = [parts_of(a), parts_of(b)]
    if has_nan(numbers):
        return compare_nan(numbers, kind)
    if kind == 0:
        holds = height(a) == height(b)
    elif kind == 1 or kind == 3:
        holds = height(a) < height(b)
    else:
        holds = height(a) <= height(b)
    return [1 if holds else 0, 0]


def order(a, b):
    if place(a) == place(b):
        return [0]
    return [-1 if place(a) < place(b) else 1]


# The bit of the number's class on the side of the positive ones, 4 to 7.
def positive_class(a, number):
    if number.kind == ZERO:
        return 4
    if number.kind == INFINITE:
        return 7
    return 5 if without_sign(a) >> 112 == 0 else 6


def class_of(a):
    number = parts_of(a)
    if is_nan(number):
        return [1 << (8 if number.kind == SIGNALING else 9)]
    bit = positive_class(a, number)
    # The negative classes are these in a mirror: 3 to 0.
    return [1 << (7 - bit if number.sign == 1 else bit)]
