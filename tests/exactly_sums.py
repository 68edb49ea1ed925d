"""The calls sum to get reckoned anew after the document's words, and whole lists of all 28 calls.

Nothing here comes from the package. An accumulator is the list of its terms, each with how often it came.
"""

from fractions import Fraction

import exactly
import exactly_texts
from exactly import NAN, NV, decode, fused, infinity, nan_of, rounded, times, zero

SCALE = 33000
MOST = 2**32 - 1

# Of each call's whole numbers the highest, or None for a quad.
HIGHEST = {
    0: (3, None, None, 4), 1: (None, 4), 2: (None, None, None, 3, 4), 3: (None, None, 1), 4: (None, 40000, 4),
    5: (None, 1, 4), 6: (None, 1), 7: (None,), 8: (None, None, 1), 9: (None, None, 2), 10: (None, None, 4),
    11: (None, None), 12: (None,), 13: (3, None), 14: (3, None, 4), 15: (9, None, 4), 16: (9, None, 4),
    17: (None, 1000, 4), 18: (None,), 19: (4,), 20: (4,), 21: (4,), 22: (None, 4), 23: (3,), 24: (3, None),
    25: (3, None, None), 26: (3, 3), 27: (3, 4),
}
LONGEST = {19: 512, 20: 64, 21: 64, 22: 64}


def as_count(number):
    """A finite term as a whole number of 2^-SCALE."""
    value = number[2]
    return (value.numerator << SCALE) // value.denominator


def exact_sum(terms, mode):
    """Terms are pairs of how often and the operands of a term: one number's bits, or two of a product."""
    operands = [[decode(bits) for bits in term] for often, term in terms]
    found = [numbers[0] if len(numbers) == 1 else None if nan_of(*numbers) else times(*numbers) for numbers in operands]
    plain = [number for number in found if number is not None]
    signs = {number[1] for number in plain if number[0] == "infinity"}
    signaling = any(number[0] == "signaling" for numbers in operands for number in numbers)
    # A product of an infinity and a zero is told as signaling by times.
    if signaling or len(signs) == 2 or any(number[0] == "signaling" for number in plain):
        return [NAN, NV]
    if None in found or any(number[0] == "quiet" for number in plain):
        return [NAN, 0]
    if signs:
        return [infinity(signs.pop()), 0]
    total = sum(often * as_count(number) for (often, term), number in zip(terms, plain))
    if total != 0:
        return rounded(Fraction(total, 2**SCALE), mode)
    if plain and all(number[2] == 0 and number[1] == plain[0][1] for number in plain):
        return [zero(plain[0][1]), 0]
    return [zero(mode == 2 and len(plain) > 0), 0]


def row_sum(mode, row):
    return exact_sum([(1, (bits,)) for bits in row], mode)


def dot(mode, row, other):
    return exact_sum([(1, pair) for pair in zip(row, other)], mode)


def poly(x, mode, row):
    if not row:
        return [0, 0]
    y, flags = row[-1], 0
    for bits in row[-2::-1]:
        y, raised = fused(y, x, bits, 0, mode)
        flags |= raised
    return [y, flags]


def is_refused(number, numbers, rows):
    for value, highest in zip(numbers, HIGHEST[number]):
        if highest is not None and not (-40000 if highest == 40000 else 0) <= value <= highest:
            return True
    if number == 13 and numbers[1] >= 2**(16, 32, 64, 80)[numbers[0]]:
        return True
    return any(len(row) > LONGEST[number] for row in rows) or len({len(row) for row in rows}) > 1


def put(terms, k, more):
    """What an accumulator has with more terms, or -2."""
    if sum(often for often, term in terms[k] + more) > MOST:
        return -2
    terms[k] = terms[k] + more
    return [0]


def keep(terms, number, numbers):
    k = numbers[0]
    if number == 23:
        terms[k] = []
        return [0]
    if number == 27:
        return exact_sum(terms[k], numbers[1])
    if number == 26:
        return put(terms, k, list(terms[numbers[1]]))
    return put(terms, k, [(1, tuple(numbers[1:]))])


def gathered(terms):
    """The same terms, each once with how often it came."""
    often = {}
    for count, term in terms:
        often[term] = often.get(term, 0) + count
    return [(count, term) for term, count in often.items()]


def answer(terms, number, numbers, rows):
    if is_refused(number, numbers, rows):
        return -1
    if number < len(exactly.CALLS):
        return exactly.CALLS[number](*numbers)
    if number in (17, 18):
        text = exactly_texts.show(*numbers) if number == 17 else exactly_texts.hexadecimal(*numbers)
        return [len(text)] + list(text.encode())
    if number < 23:
        return {19: exactly_texts.read, 20: row_sum, 21: dot, 22: poly}[number](*numbers, *rows)
    told = keep(terms, number, numbers)
    terms[:] = [gathered(one) for one in terms]
    return told


def answers(calls):
    """Calls are triples here: a call's number, its whole numbers, its rows."""
    terms, result = [[], [], [], []], []
    for number, numbers, rows in calls:
        told = answer(terms, number, numbers, rows)
        result += [1, told] if told in (-1, -2) else [1 + len(told), 0] + told
    return result


def as_list(calls):
    """The one list of whole numbers that such calls are handed in as."""
    result = []
    for number, numbers, rows in calls:
        result += [number, *numbers]
        for row in rows:
            result += [len(row), *row]
    return result
