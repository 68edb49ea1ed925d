"""The desk: a list of calls goes in, the list of their answers comes out."""

from quadnumbers.arithmetic import fused, op, root
from quadnumbers.others import from_other, has_room
from quadnumbers.reading import is_as_told, read_calls
from quadnumbers.relations import class_of, compare, order, pick, with_sign
from quadnumbers.steps import next_number, remainder, scale, split_number, whole


# A number of a call isn't as the document tells it.
class Refused(ValueError):
    pass


def call_op(numbers):
    return op(numbers[0], numbers[1], numbers[2], numbers[3])


def call_root(numbers):
    return root(numbers[0], numbers[1])


def call_fused(numbers):
    return fused(numbers[0], numbers[1], numbers[2], numbers[3], numbers[4])


def call_remainder(numbers):
    return remainder(numbers[0], numbers[1], numbers[2])


def call_scale(numbers):
    return scale(numbers[0], numbers[1], numbers[2])


def call_whole(numbers):
    return whole(numbers[0], numbers[1], numbers[2])


def call_next(numbers):
    return next_number(numbers[0], numbers[1])


def call_split(numbers):
    return split_number(numbers[0])


def call_pick(numbers):
    return pick(numbers[0], numbers[1], numbers[2])


def call_sign(numbers):
    return with_sign(numbers[0], numbers[1], numbers[2])


def call_compare(numbers):
    return compare(numbers[0], numbers[1], numbers[2])


def call_order(numbers):
    return order(numbers[0], numbers[1])


def call_class(numbers):
    return class_of(numbers[0])


# How many bits there may be depends on the format, so it is looked at here.
def call_from(numbers):
    if not has_room(numbers[0], numbers[1]):
        raise Refused()
    return from_other(numbers[0], numbers[1])


CALLED = {
    0: call_op,
    1: call_root,
    2: call_fused,
    3: call_remainder,
    4: call_scale,
    5: call_whole,
    6: call_next,
    7: call_split,
    8: call_pick,
    9: call_sign,
    10: call_compare,
    11: call_order,
    12: call_class,
    13: call_from,
}


def told(call):
    if not is_as_told(call):
        raise Refused()
    called = CALLED[call.number]
    return called(call.numbers)


def answer(call):
    try:
        said = told(call)
    except Refused:
        return [-1]
    return [0] + said


def answers(calls):
    result = []
    for call in read_calls(calls):
        said = answer(call)
        result.append(len(said))
        result.extend(said)
    return result
