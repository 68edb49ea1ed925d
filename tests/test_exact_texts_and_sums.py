"""The calls 14 to 27 against exact reckoning, over many inputs of every kind, and lists of all calls."""

import unittest

import exactly
import exactly_sums
import exactly_texts
from inputs import Inputs
from known import EDGES, GREATEST, MODES, SIGN, ask, power, quad, read, show
from quadnumbers.desk import answers


class AgainstExactReckoning(unittest.TestCase):
    def check(self, number, *numbers, rows=()):
        calls = [(number, numbers, rows)]
        told, asked = answers(exactly_sums.as_list(calls)), exactly_sums.answers(calls)
        if told != asked:
            self.fail("call %d %s %s: told %s, asked %s" % (number, [hex(n) for n in numbers], rows, told, asked))

    def test_to(self):
        inputs = Inputs("to")
        numbers = list(EDGES)
        for exponent_bits, fraction_bits in ((5, 10), (8, 23), (11, 52), (15, 63)):
            bias = 2**(exponent_bits - 1) - 1
            for turn in range(500):
                # Around the format's subnormal numbers, its least normal one, one, and its greatest.
                e = inputs.source.choice((-bias - fraction_bits, 1 - bias, 0, bias)) + inputs.source.randrange(-3, 4)
                cut = inputs.source.choice((0, 112 - fraction_bits - 1, 112 - fraction_bits, 112 - fraction_bits - 2))
                field = min(32766, max(0, e + 16383))
                a = (field << 112) + (inputs.fraction() >> cut << cut) + inputs.source.choice((0, 0, 0, 1, -1))
                numbers.append(a % SIGN | inputs.source.getrandbits(1) << 127)
        for a in numbers + [inputs.quad() for turn in range(500)]:
            for form in range(4):
                for mode in MODES:
                    self.check(14, form, a, mode)

    def test_of_whole(self):
        inputs = Inputs("of whole")
        numbers = [2**bits + step for bits in range(0, 128) for step in (-1, 0, 1)]
        for turn in range(600):
            bits = inputs.source.randrange(100, 129)
            top = inputs.source.getrandbits(bits) | 1 << bits - 1
            cut = inputs.source.choice((0, max(0, bits - 113), max(0, bits - 114), max(0, bits - 115)))
            numbers.append((top >> cut << cut) + inputs.source.choice((0, 0, 1, -1)))
        for v in numbers:
            v = v % 2**128
            for sort in range(10):
                for mode in MODES:
                    self.check(15, sort, v, mode)
                    self.check(15, sort, (2**128 - v) % 2**128, mode)

    def test_to_whole(self):
        inputs = Inputs("to whole")
        numbers = list(EDGES) + [inputs.quad(16383 + 60) for turn in range(400)]
        for bits in (0, 7, 8, 15, 16, 31, 32, 63, 64, 127, 128):
            for quarters in range(-9, 10):
                a = quad(2**(bits + 2) + quarters, -2) if bits < 110 else power(bits) + quarters
                numbers += [a, a + 1, max(a - 1, 0)]
        for a in numbers + [a ^ SIGN for a in numbers]:
            for sort in range(10):
                for mode in MODES:
                    self.check(16, sort, a, mode)

    def test_show_the_fewest_digits(self):
        inputs = Inputs("fewest")
        numbers = [a for a in EDGES if a < SIGN] + list(range(1, 40)) + [power(-16494 + step) for step in range(0, 120, 7)]
        numbers += [power(e) + step for e in range(-130, 131, 3) for step in (-1, 0, 1)]
        numbers += [quad(10**n) + step for n in range(0, 49, 3) for step in (-2, -1, 0, 1, 2, 36)]
        numbers += [(16383 + inputs.source.randrange(-150, 150) << 112) | inputs.fraction() for turn in range(600)]
        numbers += [power(e) for e in (-16382, -16381, -15000, -9000, -4000, 4000, 9000, 15000, 16383)]
        numbers += [inputs.quad() for turn in range(60)]
        for turn, a in enumerate(numbers):
            self.check(17, a | inputs.source.getrandbits(1) << 127, 0, turn % 5)

    def test_show_digits(self):
        inputs = Inputs("digits")
        numbers = list(EDGES) + [quad(10**n) + step for n in range(0, 49, 4) for step in (-1, 0, 1)]
        numbers += [quad(inputs.source.getrandbits(20) * 5**inputs.source.randrange(30), inputs.source.randrange(-30, 30))
                    for turn in range(100)]
        numbers += [inputs.quad(16383) for turn in range(200)]
        for turn, a in enumerate(numbers):
            for mode in MODES:
                digits = inputs.source.choice((inputs.source.randrange(1, 45), inputs.source.randrange(1, 8),
                                               inputs.source.randrange(1, 1001) if turn % 8 == 0 else 3))
                self.check(17, a, digits, mode)

    def test_hex(self):
        inputs = Inputs("hex")
        for a in EDGES + [inputs.quad() for turn in range(2000)]:
            self.check(18, a)

    def test_read(self):
        inputs = Inputs("read")
        for turn in range(15000):
            self.check(19, inputs.source.randrange(5), rows=(inputs.text().encode("latin-1"),))

    def test_read_close_to_the_rounding_points(self):
        inputs = Inputs("close")
        for turn in range(1200):
            # A number of the format or a middle between two of them, with all of its digits, and a little beside it.
            size, exponent = 2 * inputs.source.getrandbits(113) + inputs.source.getrandbits(1), inputs.source.randrange(-250, 200)
            digits, tens = (size << exponent, 0) if exponent >= 0 else (size * 5**-exponent, exponent)
            for beside in (0, 1, -1):
                text = "%d%s%de%d" % (digits * 10 + beside, ".", 0, tens - 1)
                for mode in MODES:
                    self.check(19, mode, rows=(text.encode("ascii"),))

    def test_read_around_the_ends(self):
        inputs = Inputs("ends")
        ends = (1, 2, 3, 2**112 - 1, 2**112, 2**112 + 1, 2**113 - 2, 2**113 - 1)
        for turn in range(300):
            size = inputs.source.choice(ends) * 8 + inputs.source.randrange(-9, 10)
            exponent = inputs.source.choice((-16494, -16494, 16271)) - 3
            text = "%s0x%x%s%xp%d" % (inputs.source.choice(("", "-")), abs(size), ".", inputs.source.randrange(2), exponent)
            shown = exactly_texts.show(exactly.rounded(abs(size) * exactly.two(exponent), turn % 5)[0] if size else 0,
                                       inputs.source.randrange(30, 60), turn // 5 % 5)
            for mode in MODES:
                self.check(19, mode, rows=(text.encode("ascii"),))
                self.check(19, mode, rows=(shown.encode("ascii"),))

    def test_sums(self):
        inputs = Inputs("sums")
        for turn in range(500):
            size = inputs.source.choice((0, 1, 2, 3, 4, 5, 8, 12, 64 if turn % 10 == 0 else 2))
            row, other = inputs.row(size), inputs.row(size)
            for mode in MODES:
                self.check(20, mode, rows=(row,))
                self.check(21, mode, rows=(row, other))
                self.check(21, mode, rows=(row, row[::-1]))

    def test_poly(self):
        inputs = Inputs("poly")
        for turn in range(1200):
            row = inputs.row(inputs.source.choice((0, 1, 2, 3, 4, 5, 8, 64 if turn % 20 == 0 else 3)))
            x = inputs.source.choice((inputs.quad(16383), inputs.short(), inputs.quad(), inputs.source.choice(EDGES)))
            for mode in MODES:
                self.check(22, x, mode, rows=(row,))

    def test_reading_back(self):
        inputs = Inputs("back")
        for turn in range(3000):
            a = inputs.quad() % SIGN % exactly.infinity(False)
            text = show(a)
            self.assertEqual(exactly_texts.read(0, text.encode("ascii"))[:2], [len(text), a])
            self.assertEqual(read(text)[:2], [len(text), a])


class Lists(unittest.TestCase):
    """Lists of all calls in any order, as long as they may be."""

    def number(self, inputs, highest):
        source = inputs.source
        if highest is None:
            return source.choice((inputs.quad(), inputs.quad(16383), inputs.short(), source.choice(EDGES)))
        if source.randrange(40) == 0:
            return source.choice((highest + 1, 2**31 - 1, 2**31 - 1 if highest == 40000 else 2**32 - 1))
        if highest == 40000:
            return source.choice((source.randrange(-40000, 40001), source.randrange(-200, 200), -40001))
        return source.choice((0, 1, 17, 36, source.randrange(1001))) if highest == 1000 else source.randrange(highest + 1)

    def rows(self, inputs, number):
        source = inputs.source
        if number == 19:
            text = inputs.text() if source.randrange(30) > 0 else "1" * source.randrange(500, 530)
            return (list(text.encode("latin-1")),)
        size = source.choice((0, 1, 2, 3, 4, 5, 6, source.randrange(60, 68) if source.randrange(6) == 0 else 2))
        if number == 21:
            return inputs.row(size), inputs.row(size if source.randrange(12) > 0 else size + 1)
        return (inputs.row(size),)

    def call(self, inputs, number):
        numbers = [self.number(inputs, highest) for highest in exactly_sums.HIGHEST[number]]
        if number == 13 and numbers[0] < 4:
            numbers[1] = inputs.source.getrandbits((16, 32, 64, 80)[numbers[0]] + (inputs.source.randrange(10) == 0))
        return number, numbers, self.rows(inputs, number) if number in (19, 20, 21, 22) else ()

    def check(self, calls):
        handed = exactly_sums.as_list(calls)
        self.assertLessEqual(len(handed), 8000)
        self.assertLessEqual(len(calls), 400)
        self.assertEqual(answers(handed), exactly_sums.answers(calls))

    def made(self, inputs, weights):
        """Calls till there are 400 or the list is full."""
        calls, size = [], 0
        while len(calls) < 400:
            one = self.call(inputs, inputs.source.choice(weights))
            size += len(exactly_sums.as_list([one]))
            if size > 8000:
                break
            calls.append(one)
        return calls

    def test_all_calls(self):
        for turn in range(12):
            self.check(self.made(Inputs("all %d" % turn), range(28)))

    def test_accumulators_above_all(self):
        for turn in range(12):
            self.check(self.made(Inputs("kept %d" % turn), (23, 24, 24, 25, 25, 24, 25, 26, 26, 27, 27, 27, 20, 0)))

    def test_merges_above_all(self):
        for turn in range(30):
            self.check(self.made(Inputs("merged %d" % turn), (24, 25, 26, 26, 26, 26, 27, 27))[:160])

    def test_finite_terms_alone(self):
        inputs = Inputs("finite")
        for turn in range(12):
            calls = []
            while len(calls) < 300:
                row = [a for a in inputs.row(8) if a % SIGN <= GREATEST]
                for a in row:
                    k = inputs.source.randrange(4)
                    calls.append(inputs.source.choice(((24, (k, a), ()), (25, (k, a, inputs.source.choice(row)), ()))))
                calls.append((26, (inputs.source.randrange(4), inputs.source.randrange(4)), ()))
                calls += [(27, (k, inputs.source.randrange(5)), ()) for k in range(4)]
                if inputs.source.randrange(12) == 0:
                    calls.append((23, (inputs.source.randrange(4),), ()))
            self.check(calls[:400])

    def test_the_longest_lists(self):
        inputs = Inputs("longest")
        self.check([self.call(inputs, 19) for turn in range(30)])
        self.check([(21, (turn % 5,), (inputs.row(64), inputs.row(64))) for turn in range(60)])
        self.check([(19, (turn % 5,), ([48 + turn % 10] * 510,)) for turn in range(15)])
        self.check([(20, (0,), ([quad(1)] * 200,))] * 39)
        self.check([(17, (quad(1, turn), 1000, turn % 5), ()) for turn in range(400)])
        self.assertEqual(ask(20, 0, 64, *[quad(1)] * 64), [quad(64), 0])


if __name__ == "__main__":
    unittest.main()
