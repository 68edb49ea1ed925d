"""Calls 23 to 27: the four accumulators, and promise 2."""

import random
import unittest

from known import (GREATEST, INF, LEAST, MINUS_INF, MINUS_ZERO, MODES, NAN, NV, NX, OF, ONE, QUIET, SIGN, SIGNALING, THREE,
                   TWO, UF, ZERO, power, quad)
from quadnumbers.desk import answers

DONE = [2, 0, 0]
WRONG = [1, -1]
TOO_MANY = [1, -2]


def clear(k):
    return [23, k]


def term(k, a):
    return [24, k, a]


def product(k, a, b):
    return [25, k, a, b]


def merge(k, j):
    return [26, k, j]


def get(k, mode=0):
    return [27, k, mode]


def told(bits, flags):
    return [3, 0, bits, flags]


def doubled(k, times):
    """Merges of one with itself."""
    return merge(k, k) * times


def filled(k):
    """Calls that give an accumulator as many terms as it may have, one at least of which is 1 and all others 0."""
    # 2^31 + 2^30 + ... + 1, with the next one for a helper: it doubles, and k takes its terms each time.
    j = (k + 1) % 4
    return term(k, ONE) + term(j, ZERO) + (doubled(j, 1) + merge(k, j)) * 31


class Ordinary(unittest.TestCase):
    def check(self, calls, found):
        self.assertEqual(answers(calls), found)

    def test_no_terms(self):
        for k in range(4):
            for mode in MODES:
                self.check(get(k, mode), told(ZERO, 0))
                self.check(clear(k) + get(k, mode), DONE + told(ZERO, 0))
                self.check(merge(k, k) + get(k, mode), DONE + told(ZERO, 0))
                self.check(merge(k, 3 - k) + get(k, mode), DONE + told(ZERO, 0))

    def test_terms_and_products(self):
        for k in range(4):
            self.check(term(k, ONE) + term(k, TWO) + get(k), DONE * 2 + told(THREE, 0))
            self.check(product(k, THREE, TWO) + term(k, quad(-1)) + get(k), DONE * 2 + told(quad(5), 0))

    def test_get_twice_and_it_stays(self):
        calls = term(0, ONE) + get(0) + get(0) + get(0, 3) + term(0, ONE) + get(0, 1) + get(0, 1)
        self.check(calls, DONE + told(ONE, 0) * 3 + DONE + told(TWO, 0) * 2)

    def test_get_by_each_mode(self):
        put = term(2, ONE) + product(2, LEAST, LEAST)
        for mode, bits in zip(MODES, (ONE, ONE, ONE, ONE + 1, ONE)):
            self.check(put + get(2, mode), DONE * 2 + told(bits, NX))
        put = term(2, quad(-1)) + product(2, power(-113), quad(-1))
        for mode, bits in zip(MODES, (ONE, ONE, ONE + 1, ONE, ONE + 1)):
            self.check(put + get(2, mode), DONE * 2 + told(bits | SIGN, NX))
        every = [number for mode in MODES for number in get(2, mode)]
        self.check(put + every, DONE * 2 + told(ONE | SIGN, NX) * 2 + told((ONE + 1) | SIGN, NX) + told(ONE | SIGN, NX)
                   + told((ONE + 1) | SIGN, NX))

    def test_each_flag(self):
        for mode, bits in zip(MODES, (INF, GREATEST, GREATEST, INF, INF)):
            self.check(product(0, GREATEST, TWO) + get(0, mode), DONE + told(bits, OF + NX))
        for mode, bits in zip(MODES, (ZERO, ZERO, ZERO, LEAST, ZERO)):
            self.check(product(0, LEAST, LEAST) + get(0, mode), DONE + told(bits, UF + NX))
        self.check(product(0, INF, ZERO) + get(0), DONE + told(NAN, NV))

    def test_exact_beyond_the_ends(self):
        calls = product(0, GREATEST, GREATEST) + get(0, 1) + product(0, LEAST, LEAST)
        calls = calls + product(0, GREATEST, GREATEST | SIGN) + get(0, 3) + product(0, LEAST, LEAST | SIGN) + get(0)
        self.check(calls, DONE + told(GREATEST, OF + NX) + DONE * 2 + told(LEAST, NX + UF) + DONE + told(ZERO, 0))

    def test_clear(self):
        for first in (ONE, INF, SIGNALING, QUIET, MINUS_ZERO, GREATEST):
            calls = term(1, first) + clear(1) + get(1, 2) + term(1, MINUS_ZERO) + get(1) + clear(1) + clear(1)
            calls = calls + term(1, THREE) + get(1)
            self.check(calls, DONE * 2 + told(ZERO, 0) + DONE + told(MINUS_ZERO, 0) + DONE * 3 + told(THREE, 0))

    def test_zeros_and_infinities_and_not_numbers(self):
        mixed = (ZERO, ZERO, MINUS_ZERO, ZERO, ZERO)
        for mode in MODES:
            for calls, bits, flags in (
                    (term(0, ZERO) + term(0, ZERO), ZERO, 0), (term(0, MINUS_ZERO) + term(0, MINUS_ZERO), MINUS_ZERO, 0),
                    (term(0, ZERO) + term(0, MINUS_ZERO), mixed[mode], 0), (term(0, ONE) + term(0, quad(-1)), mixed[mode], 0),
                    (product(0, ZERO, quad(-1)) + term(0, MINUS_ZERO), MINUS_ZERO, 0),
                    (product(0, MINUS_ZERO, quad(-1)) + term(0, MINUS_ZERO), mixed[mode], 0),
                    (term(0, INF) + term(0, GREATEST | SIGN), INF, 0), (term(0, INF) + term(0, MINUS_INF), NAN, NV),
                    (product(0, INF, quad(-1)) + term(0, ONE), MINUS_INF, 0), (term(0, QUIET) + term(0, INF), NAN, 0),
                    (term(0, SIGNALING) + term(0, ONE), NAN, NV), (product(0, QUIET, ONE) + term(0, ONE), NAN, 0),
                    (product(0, QUIET, SIGNALING) + term(0, ONE), NAN, NV), (product(0, ZERO, INF) + term(0, QUIET), NAN, NV)):
                self.check(calls + get(0, mode), DONE * 2 + told(bits, flags))
                # The same terms by a merge, and each of them twice.
                self.check(calls + merge(1, 0) + get(1, mode), DONE * 3 + told(bits, flags))
                self.check(calls + merge(0, 0) + get(0, mode), DONE * 3 + told(bits, flags))

    def test_all_four_beside_one_another(self):
        calls = [number for k in range(4) for number in term(k, quad(k + 1))]
        calls = calls + product(2, TWO, TWO) + clear(1) + merge(3, 2)
        calls = calls + [number for k in range(4) for number in get(k)]
        self.check(calls, DONE * 7 + told(ONE, 0) + told(ZERO, 0) + told(quad(7), 0) + told(quad(11), 0))

    def test_nothing_is_kept_from_one_list_to_the_next(self):
        for k in range(4):
            answers(term(k, SIGNALING) + term(k, ONE))
            self.check(get(k, 2), told(ZERO, 0))


class Merge(unittest.TestCase):
    def check(self, calls, found):
        self.assertEqual(answers(calls), found)

    def test_two(self):
        for k in range(4):
            for j in range(4):
                if j != k:
                    calls = term(k, ONE) + term(j, TWO) + merge(k, j) + get(k) + get(j)
                    self.check(calls, DONE * 3 + told(THREE, 0) + told(TWO, 0))
                    # What comes later to one of them doesn't come to the other.
                    self.check(calls + term(j, ONE) + get(k) + term(k, ONE) + get(j) + clear(j) + get(k),
                               DONE * 3 + told(THREE, 0) + told(TWO, 0) + DONE + told(THREE, 0) + DONE + told(THREE, 0)
                               + DONE + told(quad(4), 0))

    def test_with_itself(self):
        for k in range(4):
            self.check(term(k, THREE) + merge(k, k) + get(k), DONE * 2 + told(quad(6), 0))
            self.check(term(k, THREE) + doubled(k, 31) + get(k), DONE * 32 + told(quad(3 * 2**31), 0))
            # A tie that the doubling doesn't break, for the sum is exact.
            self.check(term(k, ONE) + term(k, power(-113)) + merge(k, k) + get(k) + get(k, 3),
                       DONE * 3 + told(TWO, NX) + told(TWO + 1, NX))

    def test_with_one_that_has_no_terms(self):
        self.check(term(0, MINUS_ZERO) + merge(0, 1) + get(0) + merge(1, 0) + get(1),
                   DONE * 2 + told(MINUS_ZERO, 0) + DONE + told(MINUS_ZERO, 0))
        self.check(term(0, THREE) + clear(0) + merge(1, 0) + get(1, 2), DONE * 3 + told(ZERO, 0))


class TooMany(unittest.TestCase):
    def after(self, first, calls):
        """What calls answer behind others."""
        ahead = answers(first)
        found = answers(first + calls)
        self.assertEqual(found[:len(ahead)], ahead)
        return found[len(ahead):]

    def test_as_many_as_there_may_be(self):
        for k in range(4):
            calls = filled(k)
            self.assertEqual(set(answers(calls)), {0, 2})
            self.assertEqual(self.after(calls, get(k)), told(ONE, 0))
            self.assertEqual(self.after(calls, term(k, ONE) + get(k)), TOO_MANY + told(ONE, 0))
            self.assertEqual(self.after(calls, product(k, ONE, ONE) + get(k)), TOO_MANY + told(ONE, 0))

    def test_one_short_of_it(self):
        # The helper has 2^31 terms. 2^31 + 2^31 is one too many; with 2^31 - 1 it is as many as there may be.
        calls = filled(0)
        self.assertEqual(self.after(calls, merge(1, 1)), TOO_MANY)
        less = term(0, ONE) + term(1, ZERO) + (doubled(1, 1) + merge(0, 1)) * 30
        less = less + doubled(1, 1)
        self.assertEqual(self.after(less, merge(0, 1) + term(0, ONE) + get(0)), DONE + TOO_MANY + told(ONE, 0))
        self.assertEqual(self.after(less, term(0, ONE) + merge(0, 1) + get(0)), DONE + TOO_MANY + told(TWO, 0))
        self.assertEqual(self.after(less, product(0, ONE, TWO) + merge(0, 1) + get(0) + merge(1, 0) + get(1)),
                         DONE + TOO_MANY + told(THREE, 0) + TOO_MANY + told(ZERO, 0))

    def test_nothing_is_changed_then(self):
        for more in (term(0, SIGNALING), term(0, INF), term(0, MINUS_ZERO), term(0, GREATEST), product(0, INF, ZERO),
                     product(0, LEAST, LEAST), merge(0, 0), merge(0, 1), merge(0, 2)):
            first = filled(0) + clear(2) + term(2, SIGNALING)
            every = [number for k in range(4) for mode in MODES for number in get(k, mode)]
            before = self.after(first, every)
            self.assertEqual(self.after(first, more + every), TOO_MANY + before)
            self.assertEqual(self.after(first, more * 3 + every), TOO_MANY * 3 + before)

    def test_no_terms_are_never_too_many(self):
        calls = filled(0)
        self.assertEqual(self.after(calls, merge(0, 3) + get(0)), DONE + told(ONE, 0))
        self.assertEqual(self.after(calls, clear(1) + merge(0, 1) + merge(1, 0) + get(1) + term(1, ONE)),
                         DONE * 3 + told(ONE, 0) + TOO_MANY)

    def test_cleared_there_is_room_again(self):
        self.assertEqual(self.after(filled(3), term(3, ONE) + clear(3) + term(3, ONE) + get(3)),
                         TOO_MANY + DONE * 2 + told(ONE, 0))

    def test_zeros_and_not_numbers_count_as_terms(self):
        for a in (ZERO, MINUS_ZERO, INF, QUIET, SIGNALING, LEAST):
            calls = term(0, a) + doubled(0, 31)
            self.assertEqual(answers(calls + merge(0, 0))[-2:], TOO_MANY)
            calls = calls + term(1, a) + (merge(2, 1) + doubled(1, 1)) * 31
            self.assertEqual(answers(calls + merge(0, 2) + term(0, a))[-5:], DONE + TOO_MANY)

    def test_the_sum_of_so_many(self):
        calls = term(0, GREATEST) + product(0, LEAST, LEAST) + doubled(0, 30) + get(0, 1)
        self.assertEqual(answers(calls)[-4:], told(GREATEST, OF + NX))
        calls = term(0, ONE + 1) + doubled(0, 31) + get(0) + term(1, power(31) | SIGN) + merge(0, 1) + get(0)
        self.assertEqual(answers(calls)[-4:], told(power(-112 + 31), 0))


class Refused(unittest.TestCase):
    def test_between_others(self):
        wrong = (clear(4), clear(2**32 - 1), term(4, ONE), term(2**31, INF), product(4, ONE, ONE), product(99, INF, ZERO),
                 merge(4, 0), merge(0, 4), merge(4, 4), merge(0, 2**32 - 1), get(4), get(0, 5), get(4, 5), [0, 4, ONE, ONE, 0],
                 [19, 5, 1, 49], [20, 0, 65] + [SIGNALING] * 65, [21, 0, 1, INF, 0], [17, ONE, 1001, 0])
        every = [number for k in range(4) for number in get(k, 3)]
        first = term(0, ONE) + product(1, LEAST, LEAST) + term(2, QUIET) + term(3, MINUS_ZERO)
        found = DONE * 4 + told(ONE, 0) + told(LEAST, NX + UF) + told(NAN, 0) + told(MINUS_ZERO, 0)
        for calls in wrong:
            self.assertEqual(answers(first + calls + every), found[:12] + WRONG + found[12:], calls)
            between = calls + term(0, ONE) + calls + product(1, LEAST, LEAST) + calls + term(2, QUIET) + calls
            between = between + term(3, MINUS_ZERO) + calls + every
            self.assertEqual(answers(between), (WRONG + DONE) * 4 + WRONG + found[12:])


class AnyOrder(unittest.TestCase):
    """Promise 2: the same terms by many calls in many orders."""

    def bits(self, source):
        return source.getrandbits(1) << 127 | source.randrange(32767) << 112 | source.getrandbits(112)

    def asked(self, calls, k):
        found = answers(calls + [number for mode in MODES for number in get(k, mode)])
        return found[-20:]

    def test_orders(self):
        source = random.Random("order")
        for turn in range(40):
            terms = [(self.bits(source),) for one in range(12)] + [(self.bits(source), self.bits(source)) for one in range(8)]
            terms = terms + [(one[0] ^ SIGN,) + one[1:] for one in source.sample(terms, 10)]
            found = None
            for order in range(6):
                source.shuffle(terms)
                calls = [number for one in terms for number in (term(0, *one) if len(one) == 1 else product(0, *one))]
                found = found or self.asked(calls, 0)
                self.assertEqual(self.asked(calls, 0), found)

    def test_calls(self):
        source = random.Random("calls")
        for turn in range(40):
            numbers = [self.bits(source) for one in range(20)]
            numbers = numbers + [bits ^ SIGN for bits in source.sample(numbers, 8)]
            plain = [number for bits in numbers for number in term(0, bits)]
            found = self.asked(plain, 0)
            # As products by one or minus one.
            ones = [number for bits in numbers for number in source.choice((product(1, bits, ONE),
                                                                            product(1, quad(-1), bits ^ SIGN)))]
            self.assertEqual(self.asked(ones, 1), found)
            # Over all four, merged at the end in any order.
            spread = [number for bits in numbers for number in term(source.randrange(4), bits)]
            ks = source.sample(range(4), 4)
            self.assertEqual(self.asked(spread + merge(ks[0], ks[1]) + merge(ks[2], ks[3]) + merge(ks[0], ks[2]), ks[0]),
                             found)
            # With gets and others between them, which change nothing.
            between = [number for bits in numbers for number in term(0, bits) + get(0, 2) + [1, bits, 0] + term(1, bits)]
            self.assertEqual(self.asked(between, 0), found)
            # And as sum tells it.
            self.assertEqual(found, [number for mode in MODES for number in answers([20, mode, len(numbers)] + numbers)])

    def test_doubling_and_listing_twice(self):
        source = random.Random("twice")
        for turn in range(40):
            numbers = [self.bits(source) for one in range(6)]
            once = [number for bits in numbers for number in term(2, bits)]
            self.assertEqual(self.asked(once + merge(2, 2), 2), self.asked(once + once, 2))
            self.assertEqual(self.asked(once + doubled(2, 2), 2), self.asked(once * 4, 2))
            self.assertEqual(self.asked(once + merge(0, 2) + merge(2, 0), 2), self.asked(once * 2, 2))

    def test_as_many_calls_as_there_may_be(self):
        source = random.Random("many")
        numbers = [self.bits(source) for one in range(200)]
        calls = [number for bits in numbers for number in term(0, bits)]
        calls = calls + [number for bits in numbers[:199] for number in product(0, quad(-1), bits)]
        self.assertEqual(answers(calls + get(0, 2)), DONE * 399 + told(numbers[199], 0))


if __name__ == "__main__":
    unittest.main()
