"""Show and hex: numbers written as texts."""

from quadnumbers.digits import HEXADECIMAL, power_of_five
from quadnumbers.parts import FINITE, INFINITE
from quadnumbers.quads import is_nan, parts_of
from quadnumbers.rounding import exponent, goes_outward

# So many digits tell any two numbers apart, and the first of them counts so many of the last.
MOST_DIGITS = 36
FIRST_STEP = 100000000000000000000000000000000000

# The size of powers of two, and the power that the subnormal numbers and the least normal ones have.
HIDDEN_BIT = 0x10000000000000000000000000000
LEAST_POWER = -16494


def as_bytes(text):
    return [len(text)] + [ord(letter) for letter in text]


def minus(number):
    return "-" if number.sign == 1 else ""


def not_finite(number, zero_text):
    if is_nan(number):
        return "nan"
    return minus(number) + ("inf" if number.kind == INFINITE else zero_text)


def with_point(first, others):
    return first if others == "" else first + "." + others


# The size 2^power of a number over 10^grid, as two whole numbers: a top and a bottom.
def over_ten(size, power, grid):
    fives = power_of_five(abs(grid))
    top = size if grid >= 0 else size * fives
    bottom = fives if grid >= 0 else 1
    twos = power - grid
    return [top << max(twos, 0), bottom << max(-twos, 0)]


# The whole number x with 10^x <= |a| < 10^(x+1).
def decimal_exponent(number):
    # The logarithm of two is a little less than 0.30103, so one below this is surely not above x.
    low = exponent(number.size, number.power) * 30103 // 100000 - 1
    part = over_ten(number.size, number.power, low)
    return low + len(str(part[0] // part[1])) - 1


# Which multiple of 10^grid stands for the number by the mode.
def multiple_of_ten(number, grid, mode):
    part = over_ten(number.size, number.power, grid)
    kept = part[0] // part[1]
    rest = part[0] % part[1]
    if goes_outward(number.sign, kept, 2 * rest, part[1], mode):
        return kept + 1
    return kept


# The nearer one of two neighbours to top / bottom, of two as near the one that is an even multiple of their step.
def nearer(below, step, top, bottom):
    beside = 2 * top - (2 * below + step) * bottom
    if beside < 0 or (beside == 0 and below // step % 2 == 0):
        return below
    return below + step


# The multiple of 10^grid that has the fewest digits of those that are read as the number.
def fewest(number, grid):
    # In quarters of the last place: below a power of two the numbers lie half as far apart.
    size = 4 * number.size
    is_narrow = number.size == HIDDEN_BIT and number.power > LEAST_POWER
    part = over_ten(size, number.power - 2, grid)
    low = over_ten(size - (1 if is_narrow else 2), number.power - 2, grid)
    high = over_ten(size + 2, number.power - 2, grid)
    # A tie is read as the even one of its neighbours.
    closed = 1 - number.size % 2
    least = (low[0] - closed) // low[1] + 1
    greatest = (high[0] - 1 + closed) // high[1]
    step = FIRST_STEP
    while True:
        below = part[0] // part[1] // step * step
        if below >= least and below + step <= greatest:
            return nearer(below, step, part[0], part[1])
        if below >= least:
            return below
        if below + step <= greatest:
            return below + step
        step = step // 10


def in_decimal(number, count, digits, grid):
    text = str(count)
    # Where the rounding came to the next power of ten, there is one zero too many.
    kept = text[:digits] if digits > 0 else text.rstrip("0")
    return minus(number) + with_point(kept[0], kept[1:]) + "e" + str(grid + len(text) - 1)


def show(a, digits, mode):
    number = parts_of(a)
    if number.kind != FINITE:
        return as_bytes(not_finite(number, "0e0"))
    x = decimal_exponent(number)
    if digits == 0:
        grid = x - MOST_DIGITS + 1
        return as_bytes(in_decimal(number, fewest(number, grid), digits, grid))
    grid = x - digits + 1
    return as_bytes(in_decimal(number, multiple_of_ten(number, grid, mode), digits, grid))


def hexadecimal_digits(fraction):
    text = ""
    for place in range(0, 112, 4):
        text = HEXADECIMAL[(fraction >> place) & 15] + text
    return text.rstrip("0")


def in_hex(a):
    number = parts_of(a)
    if number.kind != FINITE:
        return as_bytes(not_finite(number, "0x0p0"))
    e = exponent(number.size, number.power)
    widened = number.size << (113 - number.size.bit_length())
    fraction = hexadecimal_digits(widened - HIDDEN_BIT)
    return as_bytes(minus(number) + "0x" + with_point("1", fraction) + "p" + str(e))
