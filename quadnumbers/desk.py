"""The desk: a list of calls goes in, the list of their answers comes out."""

from quadnumbers.arithmetic import fused, op, root
from quadnumbers.others import from_other, has_room, to_other
from quadnumbers.reading import is_as_told, read_calls
from quadnumbers.relations import class_of, compare, order, pick, with_sign
from quadnumbers.scanning import read
from quadnumbers.steps import next_number, remainder, scale, split_number, whole
from quadnumbers.sums import Accumulators, TooMany, dot, number_term, poly, product_term, rounded, sum_of
from quadnumbers.wholes import of_whole, to_whole
from quadnumbers.writing import in_hex, show


# A number of a call isn't as the document tells it.
class Refused(ValueError):
    pass


def call_op(numbers):
    return op(numbers[0], numbers[1], numbers[2], numbers[3])


def call_root(numbers):
    return root(numbers[0], numbers[1])


def call_fused(numbers):
    return fused(numbers[0], numbers[1], numbers[2], numbers[3], numbers[4])


def call_remainder(numbers):
    return remainder(numbers[0], numbers[1], numbers[2])


def call_scale(numbers):
    return scale(numbers[0], numbers[1], numbers[2])


def call_whole(numbers):
    return whole(numbers[0], numbers[1], numbers[2])


def call_next(numbers):
    return next_number(numbers[0], numbers[1])


def call_split(numbers):
    return split_number(numbers[0])


def call_pick(numbers):
    return pick(numbers[0], numbers[1], numbers[2])


def call_sign(numbers):
    return with_sign(numbers[0], numbers[1], numbers[2])


def call_compare(numbers):
    return compare(numbers[0], numbers[1], numbers[2])


def call_order(numbers):
    return order(numbers[0], numbers[1])


def call_class(numbers):
    return class_of(numbers[0])


# How many bits there may be depends on the format, so it is looked at here.
def call_from(numbers):
    if not has_room(numbers[0], numbers[1]):
        raise Refused()
    return from_other(numbers[0], numbers[1])


def call_to(numbers):
    return to_other(numbers[0], numbers[1], numbers[2])


def call_ofwhole(numbers):
    return of_whole(numbers[0], numbers[1], numbers[2])


def call_towhole(numbers):
    return to_whole(numbers[0], numbers[1], numbers[2])


def call_show(numbers):
    return show(numbers[0], numbers[1], numbers[2])


def call_hex(numbers):
    return in_hex(numbers[0])


def call_read(numbers, rows):
    return read(numbers[0], rows[0])


def call_sum(numbers, rows):
    return sum_of(numbers[0], rows[0])


def call_dot(numbers, rows):
    return dot(numbers[0], rows[0], rows[1])


def call_poly(numbers, rows):
    return poly(numbers[0], numbers[1], rows[0])


def call_clear(numbers, accumulators):
    accumulators.empty(numbers[0])
    return [0]


def call_term(numbers, accumulators):
    accumulators.put(numbers[0], number_term(numbers[1]))
    return [0]


def call_product(numbers, accumulators):
    accumulators.put(numbers[0], product_term(numbers[1], numbers[2]))
    return [0]


def call_merge(numbers, accumulators):
    accumulators.put(numbers[0], accumulators.sums[numbers[1]])
    return [0]


def call_get(numbers, accumulators):
    return rounded(accumulators.sums[numbers[0]], numbers[1])


# The calls that have only whole numbers to go by, those that have rows too, those that have the accumulators too.
BY_NUMBERS = {
    0: call_op,
    1: call_root,
    2: call_fused,
    3: call_remainder,
    4: call_scale,
    5: call_whole,
    6: call_next,
    7: call_split,
    8: call_pick,
    9: call_sign,
    10: call_compare,
    11: call_order,
    12: call_class,
    13: call_from,
    14: call_to,
    15: call_ofwhole,
    16: call_towhole,
    17: call_show,
    18: call_hex,
}
BY_ROWS = {
    19: call_read,
    20: call_sum,
    21: call_dot,
    22: call_poly,
}
BY_ACCUMULATORS = {
    23: call_clear,
    24: call_term,
    25: call_product,
    26: call_merge,
    27: call_get,
}


def told(call, accumulators):
    if not is_as_told(call):
        raise Refused()
    if call.number in BY_NUMBERS:
        called = BY_NUMBERS[call.number]
        return called(call.numbers)
    if call.number in BY_ROWS:
        called = BY_ROWS[call.number]
        return called(call.numbers, call.rows)
    called = BY_ACCUMULATORS[call.number]
    return called(call.numbers, accumulators)


def answer(call, accumulators):
    try:
        said = told(call, accumulators)
    except Refused:
        return [-1]
    except TooMany:
        return [-2]
    return [0] + said


def answers(calls):
    accumulators = Accumulators()
    result = []
    for call in read_calls(calls):
        said = answer(call, accumulators)
        result.append(len(said))
        result.extend(said)
    return result
