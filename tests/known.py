"""Numbers that the tests speak of by name, and the asking of single calls."""

from quadnumbers.desk import answers

NX, UF, OF, DZ, NV = 1, 2, 4, 8, 16
MODES = range(5)

SIGN = 1 << 127
NAN = 0x7FFF8 << 108
QUIET = NAN | SIGN | 77
SIGNALING = (0x7FFF << 112) | 1
SIGNALING_TOO = SIGN | (0x7FFF << 112) | (1 << 110)
INF = 0x7FFF << 112
MINUS_INF = SIGN | INF
ZERO = 0
MINUS_ZERO = SIGN
LEAST = 1
GREATEST_SUBNORMAL = (1 << 112) - 1
LEAST_NORMAL = 1 << 112
GREATEST = INF - 1
ONE = 0x3FFF << 112
TWO = 0x4000 << 112
THREE = TWO | (1 << 111)
HALF = 0x3FFE << 112

EDGES = [
    ZERO, LEAST, 2, 3, GREATEST_SUBNORMAL, LEAST_NORMAL, LEAST_NORMAL + 1, 2 * LEAST_NORMAL,
    HALF - 1, HALF, HALF + 1, ONE - 1, ONE, ONE + 1, THREE - TWO + ONE, TWO - 1, TWO, THREE,
    (0x3FFF + 111) << 112 | 1, (0x3FFF + 112) << 112 | 1, (0x3FFF + 113) << 112 | 1,
    (INF - 1) ^ 1, GREATEST, INF - (1 << 112), INF, NAN, NAN | 5, SIGNALING, SIGNALING | (1 << 110),
]
EDGES = EDGES + [bits | SIGN for bits in EDGES]

REFUSED = "-1 alone"
TOO_MANY = "-2 alone"


def power(exponent):
    """The bits of 2^exponent."""
    if exponent >= -16382:
        return (exponent + 16383) << 112
    return 1 << (exponent + 16494)


def quad(size, exponent=0):
    """The bits of size 2^exponent, where that is a number of the format."""
    sign, size = (SIGN if size < 0 else 0), abs(size)
    while size % 2 == 0 and size > 0:
        size, exponent = size // 2, exponent + 1
    top = exponent + size.bit_length() - 1
    if size == 0:
        return sign
    if not (-16494 <= exponent and size < 2**113 and top <= 16383):
        raise AssertionError("no number of the format")
    if top < -16382:
        return sign | size << (exponent + 16494)
    return sign | ((top + 16382) << 112) + (size << (112 - (top - exponent)))


def ask(*numbers):
    """What one call answers behind its 0, or REFUSED or TOO_MANY (an order of -1 has a 0 ahead)."""
    told = answers(list(numbers))
    if told == [1, -1]:
        return REFUSED
    if told == [1, -2]:
        return TOO_MANY
    if told[0] != len(told) - 1 or told[1] != 0:
        raise AssertionError("neither an answer nor a refusal: %r" % (told,))
    return told[2:]


def text_of(told):
    """The text that show or hex told, ahead of which stands how many bytes it has."""
    if told[0] != len(told) - 1:
        raise AssertionError("not so many bytes: %r" % (told,))
    return bytes(told[1:]).decode("ascii")


def show(a, digits=0, mode=0):
    return text_of(ask(17, a, digits, mode))


def in_hex(a):
    return text_of(ask(18, a))


def read(text, mode=0):
    row = text.encode("latin-1")
    return ask(19, mode, len(row), *row)
