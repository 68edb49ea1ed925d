"""Half, single, double and extended numbers: quadruple numbers from them, and they from these."""

from quadnumbers.parts import SIGNALING, Parts, beyond_finite, finite, ones, take_apart
from quadnumbers.quads import as_quad, parts_of
from quadnumbers.rounding import TO_EVEN, put_together

# The forms of half, single, double and extended numbers, the last with its top bit hidden as in the others.
FORMS = ((5, 10), (8, 23), (11, 52), (15, 63))
EXTENDED = 3

# How many bits each of them has.
WIDTHS = (16, 32, 64, 80)


def has_room(form, bits):
    return bits >> WIDTHS[form] == 0


def take_apart_extended(bits):
    significand = bits & ones(64)
    field = (bits >> 64) & ones(15)
    sign = bits >> 79
    if field == 0:
        return finite(sign, significand, -16445)
    # Invalid ones, whose top bit is missing, count as signaling.
    if significand >> 63 == 0:
        return Parts(SIGNALING, sign, 0, 0)
    if field == 32767:
        return beyond_finite(sign, significand & ones(63), 63)
    return finite(sign, significand, field - 16446)


def take_apart_other(form, bits):
    if form == EXTENDED:
        return take_apart_extended(bits)
    return take_apart(FORMS[form], bits)


# All of them fit exactly, so the mode is never looked at.
def from_other(form, bits):
    return as_quad(take_apart_other(form, bits), TO_EVEN)


# An extended number with its top bit put in: it is 0 only where the exponent field is.
def with_top_bit(bits):
    sign_and_field = bits >> 63
    top = 1 if sign_and_field & ones(15) > 0 else 0
    return (sign_and_field << 64) + (top << 63) + (bits & ones(63))


def to_other(form, a, mode):
    made = put_together(FORMS[form], parts_of(a), mode)
    if form == EXTENDED:
        return [with_top_bit(made[0]), made[1]]
    return made
