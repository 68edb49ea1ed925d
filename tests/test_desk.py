"""The desk: lists of calls, refusals, and that nothing is changed or kept."""

import unittest

from known import INF, LEAST, NAN, NV, NX, ONE, REFUSED, SIGN, SIGNALING, THREE, TWO, ask
from quadnumbers.desk import answers
from quadnumbers.reading import read_calls

# For each call: numbers that are as told, and of each its highest, or None for a quad.
TOLD = (
    ((0, 0, ONE, TWO, 0), (3, None, None, 4)),
    ((1, TWO, 0), (None, 4)),
    ((2, ONE, TWO, THREE, 0, 0), (None, None, None, 3, 4)),
    ((3, THREE, TWO, 0), (None, None, 1)),
    ((4, ONE, 3, 0), (None, 40000, 4)),
    ((5, ONE, 0, 0), (None, 1, 4)),
    ((6, ONE, 0), (None, 1)),
    ((7, ONE), (None,)),
    ((8, ONE, TWO, 0), (None, None, 1)),
    ((9, ONE, TWO, 0), (None, None, 2)),
    ((10, ONE, TWO, 0), (None, None, 4)),
    ((11, ONE, TWO), (None, None)),
    ((12, ONE), (None,)),
    ((13, 3, 1), (3, None)),
)

ALL = [0, 0, ONE, TWO, 0,
       0, 4, ONE, TWO, 0,
       7, LEAST,
       11, ONE, TWO,
       4, ONE, 40001, 0,
       12, INF,
       13, 0, 65536,
       10, ONE, SIGNALING, 3,
       1, TWO, 5,
       0, 3, ONE, THREE, 3]

ALL_ANSWERED = [3, 0, THREE, 0,
                1, -1,
                4, 0, ONE, -16494, 0,
                2, 0, -1,
                1, -1,
                2, 0, 128,
                1, -1,
                3, 0, 0, NV,
                1, -1,
                3, 0, (0x3FFD << 112) + int("5" * 28, 16) + 1, NX]


def changed(*told):
    raise AssertionError("what is handed in was changed")


class Unchanging(list):
    """A list that tells of every change, one that is taken back too."""

    append = clear = extend = insert = pop = remove = reverse = sort = changed
    __setitem__ = __delitem__ = __iadd__ = __imul__ = changed


class Lists(unittest.TestCase):
    def test_no_call(self):
        self.assertEqual(answers([]), [])

    def test_how_many_numbers_each_call_answers(self):
        for numbers, limits in TOLD:
            found = answers(list(numbers))
            how_many = {7: 4, 11: 2, 12: 2}.get(numbers[0], 3)
            self.assertEqual(found[:2], [how_many, 0])
            self.assertEqual(len(found), 1 + how_many)

    def test_several_calls(self):
        self.assertEqual(answers(ALL), ALL_ANSWERED)

    def test_refused_calls_change_nothing_in_the_others(self):
        for numbers, limits in TOLD:
            alone = answers(list(numbers))
            refused = [0, 9, ONE, TWO, 0]
            self.assertEqual(answers(refused + list(numbers) + refused + list(numbers)),
                             [1, -1] + alone + [1, -1] + alone)

    def test_as_many_calls_as_there_may_be(self):
        self.assertEqual(answers(ALL[:5] * 400), ALL_ANSWERED[:4] * 400)

    def test_what_is_handed_in_stays(self):
        calls = list(ALL)
        answers(calls)
        self.assertEqual(calls, ALL)
        self.assertEqual(answers(Unchanging(ALL)), ALL_ANSWERED)

    def test_a_second_time_answers_as_the_first(self):
        first = answers(list(ALL))
        first.append(5)
        first[0] = 7
        self.assertEqual(answers(list(ALL)), ALL_ANSWERED)
        self.assertEqual(answers(list(ALL)), ALL_ANSWERED)

    def test_the_kinds_of_what_is_answered(self):
        found = answers([10, ONE, ONE, 0, 10, ONE, TWO, 0, 12, NAN] + ALL)
        self.assertIs(type(found), list)
        self.assertEqual({type(number) for number in found}, {int})


class Refusals(unittest.TestCase):
    def test_each_number_at_and_above_its_highest(self):
        for numbers, limits in TOLD:
            for at, highest in enumerate(limits, start=1):
                if highest is None:
                    continue
                fitting = list(numbers)
                fitting[at] = highest
                self.assertNotEqual(ask(*fitting), REFUSED, fitting)
                above = (highest + 1, 2 * highest + 2, 2**31 - 1)
                for number in above if highest == 40000 else above + (2**31, 2**32 - 1):
                    fitting[at] = number
                    self.assertEqual(ask(*fitting), REFUSED, fitting)

    def test_scale_below_its_lowest(self):
        self.assertNotEqual(ask(4, ONE, -40000, 0), REFUSED)
        for n in (-40001, -65536, -2**31):
            for a in (ONE, 0, INF, NAN, SIGNALING):
                self.assertEqual(ask(4, a, n, 0), REFUSED)

    def test_refused_whatever_the_quads_are(self):
        for a in (0, SIGN, LEAST, ONE, INF, NAN, SIGNALING, 2**128 - 1):
            for numbers in ((0, 4, a, a, 0), (0, 0, a, a, 5), (1, a, 5), (2, a, a, a, 4, 0), (2, a, a, a, 0, 5),
                            (3, a, a, 2), (4, a, 40001, 0), (4, a, 0, 5), (5, a, 2, 0), (5, a, 0, 5), (6, a, 2),
                            (8, a, a, 2), (9, a, a, 3), (10, a, a, 5), (13, 4, a)):
                self.assertEqual(answers(list(numbers)), [1, -1])

    def test_every_quad_is_taken(self):
        for numbers, limits in TOLD[:13]:
            quads = [at for at, highest in enumerate(limits, start=1) if highest is None]
            for at in quads:
                for bits in (0, 2**127, 2**128 - 1):
                    taken = list(numbers)
                    taken[at] = bits
                    self.assertNotEqual(ask(*taken), REFUSED)


class Reading(unittest.TestCase):
    """The one form of the list, rows among it, which the calls from 19 to 22 have."""

    def read(self, calls):
        return [(call.number, call.numbers, call.rows) for call in read_calls(calls)]

    def test_rows(self):
        self.assertEqual(self.read([7, 5, 19, 0, 2, 49, 50, 21, 1, 1, 8, 0, 22, 4, 3, 2, 6, 7, 27, 3, 0]),
                         [(7, [5], []), (19, [0], [[49, 50]]), (21, [1], [[8], []]), (22, [4, 3], [[6, 7]]),
                          (27, [3, 0], [])])

    def test_how_many_numbers_each_call_has(self):
        counts = (4, 2, 5, 3, 3, 3, 2, 1, 3, 3, 3, 2, 1, 2, 3, 3, 3, 3, 1, 1, 1, 1, 2, 1, 2, 3, 2, 2)
        for number, count in enumerate(counts):
            rows = {19: 1, 20: 1, 21: 2, 22: 1}.get(number, 0)
            one = (number, list(range(count)), [[]] * rows)
            self.assertEqual(self.read(([number] + list(range(count)) + [0] * rows) * 2), [one, one])


if __name__ == "__main__":
    unittest.main()
