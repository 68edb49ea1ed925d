"""Numbers rounded to a format by a mode, with the flags that this raises."""

from quadnumbers.parts import INFINITE, QUIET, SIGNALING, ZERO, bias, ones

TO_EVEN = 0
TOWARD_ZERO = 1
DOWN = 2
UP = 3
TO_AWAY = 4

NX = 1
UF = 2
OF = 4
DZ = 8
NV = 16


# Whether the neighbour farther from zero is taken, where rest of twice half lies beyond
# the nearer one, which is the multiple kept.
def goes_outward(sign, kept, rest, half, mode):
    if rest == 0 or mode == TOWARD_ZERO:
        return False
    if mode == DOWN:
        return sign == 1
    if mode == UP:
        return sign == 0
    if rest == half:
        return mode == TO_AWAY or kept % 2 == 1
    return rest > half


# Which multiple of 2^grid stands for (-1)^sign size 2^power by the mode.
def multiple(sign, size, power, grid, mode):
    drop = grid - power
    if drop <= 0:
        return size << -drop
    kept = size >> drop
    rest = size & ones(drop)
    if goes_outward(sign, kept, rest, 1 << (drop - 1), mode):
        return kept + 1
    return kept


def is_on_grid(size, power, grid):
    return grid <= power or size & ones(grid - power) == 0


# The integer e with 2^e <= size 2^power < 2^(e+1).
def exponent(size, power):
    return power + size.bit_length() - 1


# Rounding as if exponents had no end may lift a number from below the least normal one
# up to it: then it isn't tiny.
def is_tiny(form, sign, size, power, mode):
    grid = exponent(size, power) - form[1]
    return exponent(multiple(sign, size, power, grid, mode), grid) < 1 - bias(form)


def zero_bits(form, sign):
    return sign << (form[0] + form[1])


def infinity_bits(form, sign):
    return zero_bits(form, sign) + (ones(form[0]) << form[1])


def canonical_nan(form):
    return infinity_bits(form, 0) + (1 << (form[1] - 1))


def overflow_bits(form, sign, mode):
    leads_inward = mode == TOWARD_ZERO or (mode == DOWN and sign == 0) or (mode == UP and sign == 1)
    # The bits of the greatest finite number come right before the infinity's.
    return infinity_bits(form, sign) - (1 if leads_inward else 0)


def loss(form, sign, size, power, grid, mode):
    if is_on_grid(size, power, grid):
        return 0
    return NX | UF if is_tiny(form, sign, size, power, mode) else NX


# The bits and flags of (-1)^sign size 2^power, where size is not 0.
def round_to(form, sign, size, power, mode):
    least = 1 - bias(form)
    grid = max(exponent(size, power), least) - form[1]
    count = multiple(sign, size, power, grid, mode)
    if exponent(count, grid) > bias(form):
        return [overflow_bits(form, sign, mode), OF | NX]
    # Adding lets the hidden bit of the count, or its carry, raise the exponent field.
    field = grid - (least - form[1])
    bits = zero_bits(form, sign) + (field << form[1]) + count
    return [bits, loss(form, sign, size, power, grid, mode)]


# The bits and flags of a number taken apart, whatever its kind.
def put_together(form, number, mode):
    if number.kind >= QUIET:
        return [canonical_nan(form), NV if number.kind == SIGNALING else 0]
    if number.kind == INFINITE:
        return [infinity_bits(form, number.sign), 0]
    if number.kind == ZERO:
        return [zero_bits(form, number.sign), 0]
    return round_to(form, number.sign, number.size, number.power, mode)
