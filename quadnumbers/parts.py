"""Numbers taken apart: what the bits of a format stand for."""

# A form is a pair: how many bits the exponent field has, and how many the fraction.
QUADRUPLE = (15, 112)

# The two kinds of NaN come last, so that one comparison tells a NaN.
ZERO = 0
FINITE = 1
INFINITE = 2
QUIET = 3
SIGNALING = 4


# A finite number is (-1)^sign size 2^power, with as many bits in size as it takes to be exact;
# of the other kinds size and power tell nothing.
class Parts:
    def __init__(self, kind, sign, size, power):
        self.kind = kind
        self.sign = sign
        self.size = size
        self.power = power


def ones(bits):
    return (1 << bits) - 1


def bias(form):
    return ones(form[0] - 1)


def finite(sign, size, power):
    return Parts(FINITE if size > 0 else ZERO, sign, size, power)


# The fraction decides where the exponent field is all ones.
def beyond_finite(sign, fraction, fraction_bits):
    if fraction == 0:
        return Parts(INFINITE, sign, 0, 0)
    if fraction >> (fraction_bits - 1) == 1:
        return Parts(QUIET, sign, 0, 0)
    return Parts(SIGNALING, sign, 0, 0)


def take_apart(form, bits):
    exponent_bits = form[0]
    fraction_bits = form[1]
    fraction = bits & ones(fraction_bits)
    field = (bits >> fraction_bits) & ones(exponent_bits)
    sign = bits >> (exponent_bits + fraction_bits)
    if field == ones(exponent_bits):
        return beyond_finite(sign, fraction, fraction_bits)
    # Subnormal numbers have the power of the least normal ones, but not their hidden bit.
    if field == 0:
        return finite(sign, fraction, 1 - bias(form) - fraction_bits)
    return finite(sign, fraction + (1 << fraction_bits), field - bias(form) - fraction_bits)


def turned(number, turn):
    return Parts(number.kind, number.sign ^ turn, number.size, number.power)
