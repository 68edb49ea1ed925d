"""The calls 0 to 13 against exact reckoning, over many inputs of every kind."""

import unittest

import exactly
from inputs import Inputs
from known import EDGES, GREATEST, LEAST_NORMAL, MODES, NAN, ONE, SIGN, SIGNALING, ask, power


class AgainstExactReckoning(unittest.TestCase):
    def check(self, *numbers):
        told, asked = ask(*numbers), exactly.ask(*numbers)
        if told != asked:
            self.fail("call %s: told %s, asked %s" % ([hex(n) for n in numbers], told, asked))

    def test_op_of_edges(self):
        for a in EDGES:
            for b in EDGES:
                for which in range(4):
                    for mode in MODES:
                        self.check(0, which, a, b, mode)

    def test_op(self):
        inputs = Inputs("op")
        for turn in range(3000):
            a, b = inputs.pair()
            for which in range(4):
                for mode in MODES:
                    self.check(0, which, a, b, mode)

    def test_op_close_to_the_rounding_points(self):
        inputs = Inputs("close")
        for turn in range(1500):
            quotient, b = inputs.quad(16383), inputs.quad(16383)
            made = exactly.op(2, quotient, b, turn % 5)[0]
            if made % SIGN < NAN:
                self.check(0, 3, made, b, turn // 5 % 5)
                self.check(0, 2, made, b, turn // 5 % 5)
                self.check(0, 1, made, quotient, turn // 5 % 5)

    def test_op_around_the_least_normal_number(self):
        inputs = Inputs("underflow")
        for turn in range(1500):
            one, other = ONE + inputs.fraction(), ONE - 1 - inputs.fraction() % 16
            down = inputs.source.randrange(1, 4) << 112
            for mode in MODES:
                self.check(0, 2, down + inputs.fraction(), (other - (inputs.source.randrange(3) << 112)), mode)
                self.check(0, 3, down + inputs.fraction(), one + (inputs.source.randrange(3) << 112), mode)
                self.check(0, 3, SIGN | LEAST_NORMAL, ONE + 1 + inputs.fraction() % 4, mode)

    def test_op_around_the_greatest_number(self):
        inputs = Inputs("overflow")
        for turn in range(1500):
            great = GREATEST - inputs.fraction() % 64 | inputs.source.getrandbits(1) << 127
            for mode in MODES:
                self.check(0, turn % 2, great, power(16383 - 110 - inputs.source.randrange(8)), mode)
                self.check(0, 2, great, ONE + inputs.fraction() % 8 - inputs.source.randrange(8), mode)
                self.check(0, 3, great, ONE + inputs.fraction() % 8 - inputs.source.randrange(8), mode)

    def test_root(self):
        inputs = Inputs("root")
        squares = [exactly.op(2, a, a, 0)[0] for a in [inputs.quad(16383) for turn in range(600)]]
        beside = [bits + step for bits in squares for step in (-1, 0, 1) if 0 <= bits + step < 2 * SIGN]
        for a in EDGES + beside + [inputs.quad() for turn in range(2500)]:
            for mode in MODES:
                self.check(1, a, mode)

    def test_fused_of_edges(self):
        few = [0, 1, LEAST_NORMAL - 1, LEAST_NORMAL, ONE - 1, ONE, power(-8250), GREATEST, exactly.infinity(False),
               NAN | 3, SIGNALING]
        few = few + [bits | SIGN for bits in few]
        turn = 0
        for a in few:
            for b in few:
                for c in few:
                    self.check(2, a, b, c, turn % 4, turn // 4 % 5)
                    self.check(2, a, b, c, (turn + 1) % 4, (turn // 4 + 2) % 5)
                    turn = turn + 1

    def test_fused(self):
        inputs = Inputs("fused")
        for turn in range(1500):
            a, b = inputs.pair()
            product = exactly.op(2, a, b, inputs.source.randrange(5))[0]
            c = inputs.source.choice([inputs.quad(product >> 112 & 32767), inputs.quad(), product, product ^ SIGN])
            for how in range(4):
                for mode in MODES:
                    self.check(2, a, b, c, how, mode)

    def test_remainder(self):
        inputs = Inputs("remainder")
        pairs = [(a, b) for a in EDGES for b in EDGES] + [inputs.pair() for turn in range(6000)]
        for turn in range(1500):
            b = inputs.quad(16383)
            times = exactly.op(2, b, (0x3FFF + inputs.source.randrange(6) << 112) + (inputs.fraction() >> 106 << 106), 0)
            pairs.append((times[0], b))
        for a, b in pairs:
            self.check(3, a, b, 0)
            self.check(3, a, b, 1)

    def test_scale(self):
        inputs = Inputs("scale")
        steps = (-40000, -32890, -16495, -16382, -114, -113, -1, 0, 1, 113, 16384, 32877, 40000)
        for a in EDGES:
            for n in steps:
                for mode in MODES:
                    self.check(4, a, n, mode)
        for turn in range(4000):
            a = inputs.quad()
            field = a >> 112 & 32767
            n = inputs.source.choice([inputs.source.randrange(-40000, 40001), -field - inputs.source.randrange(-3, 120),
                                      32766 - field + inputs.source.randrange(-2, 3)])
            for mode in MODES:
                self.check(4, a, n, mode)

    def test_whole(self):
        inputs = Inputs("whole")
        halves = [(0x3FFF + e << 112) + (k << 111 - e) for e in range(8) for k in range(0, 2**(e + 1))]
        beside = [bits + step for bits in halves for step in (-1, 0, 1)]
        for a in EDGES + beside + [bits | SIGN for bits in beside] + [inputs.quad(16383 + 56) for turn in range(3000)]:
            for exact in range(2):
                for mode in MODES:
                    self.check(5, a, exact, mode)

    def test_one_number(self):
        inputs = Inputs("one")
        for a in EDGES + [inputs.quad() for turn in range(6000)]:
            self.check(6, a, 0)
            self.check(6, a, 1)
            self.check(7, a)
            self.check(12, a)

    def test_two_numbers(self):
        inputs = Inputs("two")
        pairs = [(a, b) for a in EDGES for b in EDGES] + [inputs.pair() for turn in range(6000)]
        for a, b in pairs:
            self.check(11, a, b)
            for which in range(2):
                self.check(8, a, b, which)
            for how in range(3):
                self.check(9, a, b, how)
            for kind in range(5):
                self.check(10, a, b, kind)

    def test_every_half_number(self):
        for bits in range(2**16):
            self.check(13, 0, bits)

    def test_from(self):
        inputs = Inputs("from")
        for form, exponent_bits, fraction_bits in ((1, 8, 23), (2, 11, 52), (3, 15, 64)):
            width = 1 + exponent_bits + fraction_bits
            for turn in range(6000):
                field = inputs.source.choice([0, 1, 2**exponent_bits - 2, 2**exponent_bits - 1,
                                              inputs.source.getrandbits(exponent_bits)])
                fraction = inputs.source.choice([0, 1, 2**fraction_bits - 1, 2**(fraction_bits - 1),
                                                 3 << fraction_bits - 2, inputs.source.getrandbits(fraction_bits)])
                bits = (inputs.source.getrandbits(1) << width - 1) | (field << fraction_bits) | fraction
                self.check(13, form, bits)
                self.check(13, form, bits ^ 1 << inputs.source.randrange(width))


if __name__ == "__main__":
    unittest.main()
