"""Read: the longest beginning of a text that is a number's text, and its value."""

from quadnumbers.arithmetic import ratio
from quadnumbers.digits import DECIMAL, HEXADECIMAL, power_of_five
from quadnumbers.parts import INFINITE, QUIET, Parts, finite
from quadnumbers.quads import as_quad

LETTERS = "+-.0123456789abcdefghijklmnopqrstuvwxyz"

# With the 512 digits that a text can have, a number so far out overflows or underflows as one farther out does.
FARTHEST = 20000


# A text of the row's bytes, with a blank for each that no number's text has.
def as_text(row):
    letters = {}
    for letter in LETTERS:
        letters[ord(letter)] = letter
    return "".join([letters.get(byte, " ") for byte in row])


def end_of_run(text, start, digits):
    end = start
    while end < len(text) and text[end] in digits:
        end = end + 1
    return end


# The end of digits with at most one point among them; start itself if there is no digit.
def end_of_digits(text, start, digits):
    point = end_of_run(text, start, digits)
    if not text.startswith(".", point):
        return point
    end = end_of_run(text, point + 1, digits)
    return start if end == start + 1 else end


def end_of_sign(text, start):
    return start + 1 if text.startswith("+", start) or text.startswith("-", start) else start


# The end of a mark, a sign and digits; start itself where this is not whole.
def end_of_exponent(text, start, mark):
    if not text.startswith(mark, start):
        return start
    first = end_of_sign(text, start + 1)
    end = end_of_run(text, first, DECIMAL)
    return end if end > first else start


def exponent_of(text):
    return 0 if text == "" else max(-FARTHEST, min(FARTHEST, int(text[1:])))


def decimal_value(sign, size, n):
    if n >= 0:
        return finite(sign, size * power_of_five(n), n)
    return ratio(sign, size, power_of_five(-n), n)


def read_decimal(text, sign, start, end):
    finish = end_of_exponent(text, end, "e")
    parts = text[start:end].partition(".")
    n = exponent_of(text[end:finish]) - len(parts[2])
    return [finish, decimal_value(sign, int(parts[0] + parts[2]), n)]


def read_hexadecimal(text, sign, start, end):
    finish = end_of_exponent(text, end, "p")
    parts = text[start:end].partition(".")
    power = exponent_of(text[end:finish]) - 4 * len(parts[2])
    return [finish, finite(sign, int(parts[0] + parts[2], 16), power)]


# How many bytes are used, and the number taken apart.
def read_number(text):
    sign = 1 if text.startswith("-") else 0
    start = end_of_sign(text, 0)
    for word in ("infinity", "inf", "nan"):
        if text.startswith(word, start):
            return [start + len(word), Parts(QUIET if word == "nan" else INFINITE, sign, 0, 0)]
    if text.startswith("0x", start):
        end = end_of_digits(text, start + 2, HEXADECIMAL)
        if end > start + 2:
            return read_hexadecimal(text, sign, start + 2, end)
    end = end_of_digits(text, start, DECIMAL)
    if end > start:
        return read_decimal(text, sign, start, end)
    return [0, finite(0, 0, 0)]


def read(mode, row):
    found = read_number(as_text(row))
    return [found[0]] + as_quad(found[1], mode)
