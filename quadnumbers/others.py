"""Half, single, double and extended numbers, and quadruple numbers from them."""

from quadnumbers.parts import SIGNALING, Parts, beyond_finite, finite, ones, take_apart
from quadnumbers.quads import as_quad
from quadnumbers.rounding import TO_EVEN

HALF = (5, 10)
SINGLE = (8, 23)
DOUBLE = (11, 52)

# How many bits a half, single, double and extended number has.
WIDTHS = (16, 32, 64, 80)


def has_room(form, bits):
    return bits >> WIDTHS[form] == 0


def take_apart_extended(bits):
    significand = bits & ones(64)
    field = (bits >> 64) & ones(15)
    sign = bits >> 79
    if field == 0:
        return finite(sign, significand, -16445)
    # Invalid ones, whose top bit is missing, count as signaling.
    if significand >> 63 == 0:
        return Parts(SIGNALING, sign, 0, 0)
    if field == 32767:
        return beyond_finite(sign, significand & ones(63), 63)
    return finite(sign, significand, field - 16446)


def take_apart_other(form, bits):
    if form == 0:
        return take_apart(HALF, bits)
    if form == 1:
        return take_apart(SINGLE, bits)
    if form == 2:
        return take_apart(DOUBLE, bits)
    return take_apart_extended(bits)


# All of them fit exactly, so the mode is never looked at.
def from_other(form, bits):
    return as_quad(take_apart_other(form, bits), TO_EVEN)
