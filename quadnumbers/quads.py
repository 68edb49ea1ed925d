"""Quadruple numbers: their bits taken apart, and answers put together."""

from quadnumbers.parts import INFINITE, QUADRUPLE, QUIET, SIGNALING, ZERO, take_apart
from quadnumbers.rounding import NV, round_to

SIGN_BIT = 0x80000000000000000000000000000000
INFINITY = 0x7fff0000000000000000000000000000
CANONICAL_NAN = 0x7fff8000000000000000000000000000


def parts_of(bits):
    return take_apart(QUADRUPLE, bits)


def sign_of(bits):
    return bits >> 127


def without_sign(bits):
    return bits & (SIGN_BIT - 1)


def zero(sign):
    return sign << 127


def infinity(sign):
    return (sign << 127) | INFINITY


def invalid():
    return [CANONICAL_NAN, NV]


def is_nan(number):
    return number.kind >= QUIET


def has_nan(numbers):
    return any([is_nan(number) for number in numbers])


def nan_flags(numbers):
    return NV if any([number.kind == SIGNALING for number in numbers]) else 0


def nan_answer(numbers):
    return [CANONICAL_NAN, nan_flags(numbers)]


# The bits and flags of a number taken apart, whatever its kind.
def as_quad(number, mode):
    if is_nan(number):
        return nan_answer([number])
    if number.kind == INFINITE:
        return [infinity(number.sign), 0]
    if number.kind == ZERO:
        return [zero(number.sign), 0]
    return round_to(QUADRUPLE, number.sign, number.size, number.power, mode)
