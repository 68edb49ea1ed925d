"""The desk: lists of calls, refusals, and that nothing is changed or kept."""

import unittest

from known import INF, LEAST, NAN, NV, NX, ONE, REFUSED, SIGN, SIGNALING, THREE, TWO, ask
from quadnumbers.desk import answers
from quadnumbers.reading import read_calls

# For each call: numbers that are as told, and of each its highest, or None for a quad.
TOLD = (
    ((0, 0, ONE, TWO, 0), (3, None, None, 4)),
    ((1, TWO, 0), (None, 4)),
    ((2, ONE, TWO, THREE, 0, 0), (None, None, None, 3, 4)),
    ((3, THREE, TWO, 0), (None, None, 1)),
    ((4, ONE, 3, 0), (None, 40000, 4)),
    ((5, ONE, 0, 0), (None, 1, 4)),
    ((6, ONE, 0), (None, 1)),
    ((7, ONE), (None,)),
    ((8, ONE, TWO, 0), (None, None, 1)),
    ((9, ONE, TWO, 0), (None, None, 2)),
    ((10, ONE, TWO, 0), (None, None, 4)),
    ((11, ONE, TWO), (None, None)),
    ((12, ONE), (None,)),
    ((13, 3, 1), (3, None)),
    ((14, 0, ONE, 0), (3, None, 4)),
    ((15, 0, 1, 0), (9, None, 4)),
    ((16, 0, ONE, 0), (9, None, 4)),
    ((17, ONE, 0, 0), (None, 1000, 4)),
    ((18, ONE), (None,)),
    ((19, 0, 1, 49), (4,)),
    ((20, 0, 1, ONE), (4,)),
    ((21, 0, 1, ONE, 1, ONE), (4,)),
    ((22, ONE, 0, 1, ONE), (None, 4)),
    ((23, 0), (3,)),
    ((24, 0, ONE), (3, None)),
    ((25, 0, ONE, ONE), (3, None, None)),
    ((26, 0, 0), (3, 3)),
    ((27, 0, 0), (3, 4)),
)

# How many numbers each of them answers, its 0 among them, where there are not three.
ANSWERED = {7: 4, 11: 2, 12: 2, 17: 5, 18: 7, 19: 4, 23: 2, 24: 2, 25: 2, 26: 2}

ALL = [0, 0, ONE, TWO, 0,
       0, 4, ONE, TWO, 0,
       7, LEAST,
       11, ONE, TWO,
       4, ONE, 40001, 0,
       12, INF,
       13, 0, 65536,
       10, ONE, SIGNALING, 3,
       1, TWO, 5,
       0, 3, ONE, THREE, 3,
       14, 0, ONE, 0,
       15, 2, 65535, 0,
       16, 1, TWO, 0,
       17, ONE, 2, 0,
       18, THREE,
       19, 0, 2, 51, 120,
       19, 5, 0,
       20, 0, 0,
       21, 0, 1, ONE, 0,
       24, 1, ONE,
       25, 1, ONE, TWO,
       22, TWO, 0, 2, ONE, ONE,
       26, 0, 1,
       26, 0, 4,
       27, 0, 0,
       23, 1,
       27, 1, 2]

ALL_ANSWERED = [3, 0, THREE, 0,
                1, -1,
                4, 0, ONE, -16494, 0,
                2, 0, -1,
                1, -1,
                2, 0, 128,
                1, -1,
                3, 0, 0, NV,
                1, -1,
                3, 0, (0x3FFD << 112) + int("5" * 28, 16) + 1, NX,
                3, 0, 0x3C00, 0,
                3, 0, ONE | SIGN, 0,
                3, 0, 2, 0,
                7, 0, 5, 49, 46, 48, 101, 48,
                9, 0, 7, 48, 120, 49, 46, 56, 112, 49,
                4, 0, 1, THREE, 0,
                1, -1,
                3, 0, 0, 0,
                1, -1,
                2, 0, 0,
                2, 0, 0,
                3, 0, THREE, 0,
                2, 0, 0,
                1, -1,
                3, 0, THREE, 0,
                2, 0, 0,
                3, 0, 0, 0]


def changed(*told):
    raise AssertionError("what is handed in was changed")


class Unchanging(list):
    """A list that tells of every change, one that is taken back too."""

    append = clear = extend = insert = pop = remove = reverse = sort = changed
    __setitem__ = __delitem__ = __iadd__ = __imul__ = changed


class Lists(unittest.TestCase):
    def test_no_call(self):
        self.assertEqual(answers([]), [])

    def test_how_many_numbers_each_call_answers(self):
        for numbers, limits in TOLD:
            found = answers(list(numbers))
            how_many = ANSWERED.get(numbers[0], 3)
            self.assertEqual(found[:2], [how_many, 0])
            self.assertEqual(len(found), 1 + how_many)

    def test_several_calls(self):
        self.assertEqual(answers(ALL), ALL_ANSWERED)

    def test_refused_calls_change_nothing_in_the_others(self):
        for numbers, limits in TOLD:
            alone = answers(list(numbers))
            refused = [0, 9, ONE, TWO, 0]
            self.assertEqual(answers(refused + list(numbers) + refused + list(numbers)),
                             [1, -1] + alone + [1, -1] + alone)

    def test_most_calls_change_nothing(self):
        every = [number for k in range(4) for mode in range(5) for number in (27, k, mode)]
        kept = [24, 0, THREE, 24, 1, LEAST, 25, 2, LEAST, LEAST, 24, 3, SIGN]
        told = answers(kept + every)
        for numbers, limits in TOLD:
            if numbers[0] not in (23, 24, 25, 26):
                found = answers(kept + list(numbers) * 2 + every)
                self.assertEqual(found[:12] + found[-80:], told, numbers)

    def test_as_many_calls_as_there_may_be(self):
        self.assertEqual(answers(ALL[:5] * 400), ALL_ANSWERED[:4] * 400)

    def test_what_is_handed_in_stays(self):
        calls = list(ALL)
        answers(calls)
        self.assertEqual(calls, ALL)
        self.assertEqual(answers(Unchanging(ALL)), ALL_ANSWERED)

    def test_a_second_time_answers_as_the_first(self):
        first = answers(list(ALL))
        first.append(5)
        first[0] = 7
        self.assertEqual(answers(list(ALL)), ALL_ANSWERED)
        self.assertEqual(answers(list(ALL)), ALL_ANSWERED)

    def test_the_kinds_of_what_is_answered(self):
        found = answers([10, ONE, ONE, 0, 10, ONE, TWO, 0, 12, NAN] + ALL)
        self.assertIs(type(found), list)
        self.assertEqual({type(number) for number in found}, {int})


class Refusals(unittest.TestCase):
    def test_each_number_at_and_above_its_highest(self):
        for numbers, limits in TOLD:
            for at, highest in enumerate(limits, start=1):
                if highest is None:
                    continue
                fitting = list(numbers)
                fitting[at] = highest
                self.assertNotEqual(ask(*fitting), REFUSED, fitting)
                above = (highest + 1, 2 * highest + 2, 2**31 - 1)
                for number in above if highest == 40000 else above + (2**31, 2**32 - 1):
                    fitting[at] = number
                    self.assertEqual(ask(*fitting), REFUSED, fitting)

    def test_scale_below_its_lowest(self):
        self.assertNotEqual(ask(4, ONE, -40000, 0), REFUSED)
        for n in (-40001, -65536, -2**31):
            for a in (ONE, 0, INF, NAN, SIGNALING):
                self.assertEqual(ask(4, a, n, 0), REFUSED)

    def test_refused_whatever_the_quads_are(self):
        for a in (0, SIGN, LEAST, ONE, INF, NAN, SIGNALING, 2**128 - 1):
            for numbers in ((0, 4, a, a, 0), (0, 0, a, a, 5), (1, a, 5), (2, a, a, a, 4, 0), (2, a, a, a, 0, 5),
                            (3, a, a, 2), (4, a, 40001, 0), (4, a, 0, 5), (5, a, 2, 0), (5, a, 0, 5), (6, a, 2),
                            (8, a, a, 2), (9, a, a, 3), (10, a, a, 5), (13, 4, a), (14, 4, a, 0), (14, 0, a, 5),
                            (15, 10, a, 0), (15, 0, a, 5), (16, 10, a, 0), (16, 9, a, 5), (17, a, 1001, 0),
                            (17, a, 0, 5), (20, 5, 1, a), (20, 5, 0), (21, 5, 1, a, 1, a), (21, 0, 1, a, 0),
                            (21, 0, 0, 1, a), (22, a, 5, 1, a), (22, a, 5, 0), (24, 4, a), (25, 4, a, a)):
                self.assertEqual(answers(list(numbers)), [1, -1])

    def test_a_refused_call_says_and_changes_nothing_more(self):
        every = [number for k in range(4) for number in (27, k, 0)]
        kept = [24, 0, THREE, 24, 1, LEAST, 25, 2, LEAST, LEAST, 24, 3, SIGN]
        told = answers(kept + every)
        for numbers, limits in TOLD:
            for at, highest in enumerate(limits, start=1):
                if highest is not None:
                    wrong = list(numbers)
                    wrong[at] = highest + 1
                    self.assertEqual(answers(kept + wrong + every), told[:12] + [1, -1] + told[12:], wrong)

    def test_rows_that_are_too_long(self):
        for numbers, longest in (([19, 0], 512), ([20, 0], 64), ([22, ONE, 0], 64)):
            for a in (0, 48, 255):
                self.assertNotEqual(ask(*numbers, longest, *[a] * longest), REFUSED)
                for size in (longest + 1, longest + 2, 3 * longest):
                    self.assertEqual(ask(*numbers, size, *[a] * size), REFUSED)
        for size, other in ((65, 65), (64, 65), (65, 64), (65, 1), (1, 65), (200, 200), (2, 1), (0, 1), (64, 0)):
            self.assertEqual(ask(21, 0, size, *[ONE] * size, other, *[ONE] * other), REFUSED)
        for size in (0, 1, 63, 64):
            self.assertNotEqual(ask(21, 0, size, *[ONE] * size, size, *[ONE] * size), REFUSED)

    def test_rows_as_long_as_can_be_handed_in(self):
        behind = [24, 0, ONE, 27, 0, 0]
        for wrong in ([19, 0, 2000] + [49] * 2000, [20, 0, 200] + [ONE] * 200, [22, ONE, 0, 200] + [ONE] * 200,
                      [21, 0, 200] + [ONE] * 200 + [200] + [ONE] * 200, [21, 0, 0, 200] + [23] * 200):
            self.assertEqual(answers(wrong + behind), [1, -1, 2, 0, 0, 3, 0, ONE, 0])

    def test_every_quad_is_taken(self):
        for numbers, limits in TOLD[:13] + TOLD[14:]:
            quads = [at for at, highest in enumerate(limits, start=1) if highest is None]
            for at in quads:
                for bits in (0, 2**127, 2**128 - 1):
                    taken = list(numbers)
                    taken[at] = bits
                    self.assertNotEqual(ask(*taken), REFUSED)


class Reading(unittest.TestCase):
    """The one form of the list, rows among it, which the calls from 19 to 22 have."""

    def read(self, calls):
        return [(call.number, call.numbers, call.rows) for call in read_calls(calls)]

    def test_rows(self):
        self.assertEqual(self.read([7, 5, 19, 0, 2, 49, 50, 21, 1, 1, 8, 0, 22, 4, 3, 2, 6, 7, 27, 3, 0]),
                         [(7, [5], []), (19, [0], [[49, 50]]), (21, [1], [[8], []]), (22, [4, 3], [[6, 7]]),
                          (27, [3, 0], [])])

    def test_how_many_numbers_each_call_has(self):
        counts = (4, 2, 5, 3, 3, 3, 2, 1, 3, 3, 3, 2, 1, 2, 3, 3, 3, 3, 1, 1, 1, 1, 2, 1, 2, 3, 2, 2)
        for number, count in enumerate(counts):
            rows = {19: 1, 20: 1, 21: 2, 22: 1}.get(number, 0)
            one = (number, list(range(count)), [[]] * rows)
            self.assertEqual(self.read(([number] + list(range(count)) + [0] * rows) * 2), [one, one])


if __name__ == "__main__":
    unittest.main()
