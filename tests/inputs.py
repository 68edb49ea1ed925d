"""Numbers, texts and rows of every kind for the checks against exact reckoning, the same in every run."""

import random

from known import EDGES, SIGN


class Inputs:
    def __init__(self, seed):
        self.source = random.Random(seed)

    def fraction(self):
        one = self.source
        kind = one.randrange(6)
        if kind == 0:
            return one.getrandbits(112)
        if kind == 1:
            return (one.getrandbits(8) << 104) | one.getrandbits(3)
        if kind == 2:
            return (1 << 112) - 1 - one.getrandbits(one.randrange(1, 20))
        if kind == 3:
            return 1 << one.randrange(112)
        if kind == 4:
            return one.getrandbits(56) << 56
        return one.getrandbits(4)

    def field(self, near=None):
        one = self.source
        kind = one.randrange(8)
        if kind < 4 and near is not None:
            return min(32766, max(0, near + one.randrange(-118, 119)))
        if kind < 2:
            return one.randrange(0, 32767)
        if kind == 2:
            return one.randrange(0, 3)
        if kind == 3:
            return one.randrange(32764, 32767)
        if kind == 4:
            return one.randrange(16383 // 2 - 70, 16383 // 2 + 70)
        if kind == 5:
            return one.randrange(16383 + 8192 - 70, 16383 + 8192 + 70)
        return one.randrange(16383 - 120, 16383 + 120)

    def quad(self, near=None):
        one = self.source
        if one.randrange(16) == 0:
            return one.choice(EDGES)
        if one.randrange(40) == 0:
            return one.getrandbits(128)
        return (one.getrandbits(1) << 127) | (self.field(near) << 112) | self.fraction()

    def pair(self):
        first = self.quad()
        return first, self.quad((first >> 112) & 32767)

    def short(self):
        """A number of few bits, whose sums and products are often exact."""
        return (self.source.getrandbits(1) << 127) | (16383 + self.source.randrange(-4, 5) << 112) \
            | self.source.getrandbits(3) << 109

    def row(self, size):
        """Numbers that meet in a sum: near one another, far apart, or one the other's opposite."""
        kind, found = self.source.randrange(6), []
        near = self.field()
        while len(found) < size:
            if found and self.source.randrange(3) == 0:
                found.append(self.source.choice(found) ^ self.source.choice((SIGN, SIGN, 0, 1, SIGN | 1)))
            elif kind == 0:
                found.append(self.source.choice((0, SIGN)))
            elif kind == 1:
                found.append(self.short())
            elif kind == 2:
                found.append(self.quad())
            else:
                # No infinities and NaNs among these, so that the sum is looked at.
                field = min(32766, max(0, near + self.source.choice((0, 1, -1, -112, -113, 112, 113, 200, -200, 30000))))
                found.append(self.source.getrandbits(1) << 127 | field << 112 | self.fraction())
        return found

    def digits(self, letters, longest):
        size = self.source.choice((0, 1, 2, 5, 20, 36, 60, longest))
        return "".join(self.source.choice(letters) for turn in range(self.source.randrange(size + 1)))

    def exponent(self, mark, ends):
        kind = self.source.randrange(5)
        if kind == 0:
            return ""
        if kind == 1:
            return mark + self.source.choice(("", "+", "-"))
        value = str(self.source.choice((self.source.randrange(40), self.source.choice(ends) + self.source.randrange(-40, 41),
                                        self.source.getrandbits(self.source.randrange(1, 400)))))
        return mark + self.source.choice(("", "+", "-", "-0")) + value

    def text(self):
        kind = self.source.randrange(10)
        sign = self.source.choice(("", "", "", "+", "-", "-", "--"))
        behind = self.source.choice(("", "", "", "", " ", "x", ".", "e", "p1", "E5", "0", "\xff", "\0", "inf"))
        if kind == 0:
            word = self.source.choice(("infinity", "inf", "nan", "INF", "infinit", "nAn"))
            return sign + word[:self.source.randrange(len(word) + 1)] + behind
        if kind == 1:
            return "".join(self.source.choice("+-.00123459aefpxinfty \0") for turn in range(self.source.randrange(14)))
        letters, longest, mark, ends = ("0123456789", 180, "e", (0, 4932, 4966, 4932 + 34))
        if kind < 5:
            sign, letters, longest, mark, ends = sign + "0x", "0123456789abcdef", 180, "p", (0, 16382, 16383, 16494)
        letters = self.source.choice((letters, letters, letters, letters[:1], letters[-1:], "05", "0" * 9 + "1"))
        point = self.source.choice(("", ".", ".", "."))
        return sign + self.digits(letters, longest) + point + self.digits(letters, longest) + self.exponent(mark, ends) + behind
