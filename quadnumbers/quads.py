"""Quadruple numbers: their bits taken apart, and answers put together."""

from quadnumbers.parts import QUADRUPLE, QUIET, SIGNALING, take_apart
from quadnumbers.rounding import NV, put_together

SIGN_BIT = 0x80000000000000000000000000000000
INFINITY = 0x7fff0000000000000000000000000000
CANONICAL_NAN = 0x7fff8000000000000000000000000000


def parts_of(bits):
    return take_apart(QUADRUPLE, bits)


def sign_of(bits):
    return bits >> 127


def without_sign(bits):
    return bits & (SIGN_BIT - 1)


def zero(sign):
    return sign << 127


def infinity(sign):
    return (sign << 127) | INFINITY


def invalid():
    return [CANONICAL_NAN, NV]


def is_nan(number):
    return number.kind >= QUIET


def has_nan(numbers):
    return any([is_nan(number) for number in numbers])


def nan_flags(numbers):
    return NV if any([number.kind == SIGNALING for number in numbers]) else 0


def nan_answer(numbers):
    return [CANONICAL_NAN, nan_flags(numbers)]


def as_quad(number, mode):
    return put_together(QUADRUPLE, number, mode)
