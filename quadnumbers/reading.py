"""The list of calls read into calls, and what their numbers may be."""

# What each whole number of a call is, by the words of LIMITS.
NUMBERS = {
    0: ("to 3", "quad", "quad", "mode"),
    1: ("quad", "mode"),
    2: ("quad", "quad", "quad", "to 3", "mode"),
    3: ("quad", "quad", "to 1"),
    4: ("quad", "exponent", "mode"),
    5: ("quad", "to 1", "mode"),
    6: ("quad", "to 1"),
    7: ("quad",),
    8: ("quad", "quad", "to 1"),
    9: ("quad", "quad", "to 2"),
    10: ("quad", "quad", "to 4"),
    11: ("quad", "quad"),
    12: ("quad",),
    13: ("to 3", "quad"),
    14: ("to 3", "quad", "mode"),
    15: ("to 9", "quad", "mode"),
    16: ("to 9", "quad", "mode"),
    17: ("quad", "to 1000", "mode"),
    18: ("quad",),
    19: ("mode",),
    20: ("mode",),
    21: ("mode",),
    22: ("quad", "mode"),
    23: ("to 3",),
    24: ("to 3", "quad"),
    25: ("to 3", "quad", "quad"),
    26: ("to 3", "to 3"),
    27: ("to 3", "mode"),
}

# The rows behind the whole numbers of a call, where there are any: how long each of them may be.
ROWS = {19: (512,), 20: (64,), 21: (64, 64), 22: (64,)}

LIMITS = {
    "quad": (0, 340282366920938463463374607431768211455),
    "mode": (0, 4),
    "exponent": (-40000, 40000),
    "to 1": (0, 1),
    "to 2": (0, 2),
    "to 3": (0, 3),
    "to 4": (0, 4),
    "to 9": (0, 9),
    "to 1000": (0, 1000),
}


class Call:
    def __init__(self, number, numbers, rows):
        self.number = number
        self.numbers = numbers
        self.rows = rows


def read_rows(calls, start, count):
    rows = []
    place = start
    while len(rows) < count:
        end = place + 1 + calls[place]
        rows.append(calls[place + 1:end])
        place = end
    return rows


def read_calls(calls):
    found = []
    place = 0
    while place < len(calls):
        number = calls[place]
        behind = place + 1 + len(NUMBERS[number])
        rows = read_rows(calls, behind, len(ROWS.get(number, ())))
        found.append(Call(number, calls[place + 1:behind], rows))
        place = behind + sum([1 + len(row) for row in rows])
    return found


def has_fitting_numbers(call):
    for number, word in zip(call.numbers, NUMBERS[call.number]):
        limits = LIMITS[word]
        if number < limits[0] or number > limits[1]:
            return False
    return True


# Two rows belong together place by place, so they are as long as one another.
def has_fitting_rows(call):
    for row, longest in zip(call.rows, ROWS.get(call.number, ())):
        if len(row) > longest or len(row) != len(call.rows[0]):
            return False
    return True


def is_as_told(call):
    return has_fitting_numbers(call) and has_fitting_rows(call)
