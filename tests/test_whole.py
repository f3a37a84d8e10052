"""whole and float: numbers to whole numbers and back."""

import unittest
from fractions import Fraction

from tests import helper as h

BITS = (1, 2, 3, 8, 11, 24, 47, 48)


def ends(bits, sign):
    """The ends of so many bits."""
    return (-(2 ** (bits - 1)), 2 ** (bits - 1) - 1) if sign else (0, 2 ** bits - 1)


def wanted_whole(kind, mode, bits, sign, a):
    least, greatest = ends(bits, sign)
    if h.is_nan(kind, a):
        return 0
    if h.is_inf(kind, a):
        return least if h.negative(kind, a) else greatest
    z = h.to_whole(mode, h.value(kind, a))
    if z < least:
        return least
    return greatest if z > greatest else z


def near(kind, x):
    """The bits of the numbers about a Fraction: it or the two beside it, and their neighbours."""
    down = h.round_to(kind, 3, x)
    return [bits for bits in (down - 1, down, down + 1, down + 2) if h.is_finite(kind, bits) and bits >= 0]


class Whole(unittest.TestCase):
    def check(self, cases):
        for case, answer in zip(cases, h.asked([h.whole_call(*case) for case in cases])):
            self.assertEqual(answer, [0, wanted_whole(*case)], case)

    def everywhere(self, kind, some):
        self.check([(kind, mode, bits, sign, a) for a in some for bits in BITS for sign in (0, 1) for mode in h.MODES])

    def test_edges(self):
        for kind in h.KINDS:
            self.everywhere(kind, h.edges(kind) + h.nans(kind))

    def test_at_the_ends_and_beyond(self):
        for kind in h.KINDS:
            cases = []
            for bits in BITS:
                for sign in (0, 1):
                    for end in ends(bits, sign):
                        for apart in (-1, Fraction(-1, 2), 0, Fraction(1, 2), 1):
                            x = Fraction(end + apart)
                            for a in near(kind, abs(x)):
                                a += h.SIGN[kind] if x < 0 else 0
                                cases += [(kind, mode, bits, sign, a) for mode in h.MODES]
            self.check(cases)

    def test_half_way_between_two_whole_numbers(self):
        for kind in h.KINDS:
            halves = [h.round_to(kind, 0, Fraction(n, 2)) for n in range(-23, 24, 2)]
            self.everywhere(kind, [a for a in halves if h.value(kind, a).denominator == 2])

    def test_stirred_numbers(self):
        for kind in h.KINDS:
            stirred = h.Stirred(kind + 800)
            some = [stirred.near_one(kind, 14) for _ in range(40)] + [stirred.bits(kind) for _ in range(40)]
            if kind:
                some += [stirred.near_one(kind, 52) for _ in range(40)]
            self.everywhere(kind, some)

    def test_each_count_of_bits(self):
        for kind in h.KINDS:
            s, inf = h.SIGN[kind], h.INFINITY[kind]
            for bits in range(1, 49):
                for mode in h.MODES:
                    for sign in (0, 1):
                        least, greatest = ends(bits, sign)
                        given = h.asked([h.whole_call(kind, mode, bits, sign, a) for a in (s + inf, inf, h.NAN[kind], inf + 1)])
                        self.assertEqual(given, [[0, least], [0, greatest], [0, 0], [0, 0]])

    def test_in_words(self):
        # Halves: 2.5, -2.5, 0.5, -0.5, in each mode, in 48 bits with a sign.
        rows = ((0x4100, [2, 2, 3, 2, 3]), (0xC100, [-2, -3, -2, -2, -3]), (0x3800, [0, 0, 1, 0, 1]),
                (0xB800, [0, -1, 0, 0, -1]), (0x0001, [0, 0, 1, 0, 0]), (0x8001, [0, -1, 0, 0, 0]),
                (0, [0] * 5), (0x8000, [0] * 5), (0x7BFF, [65504] * 5), (0xFBFF, [-65504] * 5),
                (0x7C00, [2 ** 47 - 1] * 5), (0xFC00, [-2 ** 47] * 5), (0x7C01, [0] * 5))
        for a, out in rows:
            self.assertEqual([h.ask(h.whole_call(0, mode, 48, 1, a)) for mode in h.MODES], [[0, z] for z in out])
            held = [max(z, 0) for z in out] if a != 0x7C00 else [2 ** 48 - 1] * 5
            self.assertEqual([h.ask(h.whole_call(0, mode, 48, 0, a)) for mode in h.MODES], [[0, z] for z in held])
        # One bit: 0 and 1, or with a sign -1 and 0.
        for a, plain, signed in ((0x3C00, 1, 0), (0x4000, 1, 0), (0xBC00, 0, -1), (0xC000, 0, -1), (0, 0, 0)):
            self.assertEqual(h.ask(h.whole_call(0, 0, 1, 0, a)), [0, plain])
            self.assertEqual(h.ask(h.whole_call(0, 0, 1, 1, a)), [0, signed])

    def test_answers_are_whole_numbers(self):
        for kind in h.KINDS:
            for a in h.edges(kind) + h.nans(kind):
                self.assertTrue(all(type(one) is int for one in h.ask(h.whole_call(kind, 0, 9, 1, a))))


class Float(unittest.TestCase):
    def check(self, cases):
        for case, answer in zip(cases, h.asked([h.float_call(*case) for case in cases])):
            kind, mode, z = case
            self.assertEqual(hex(h.bits_of(kind, answer)), hex(h.round_to(kind, mode, Fraction(z))), case)

    def everywhere(self, some):
        self.check([(kind, mode, sign * z) for z in some for sign in (1, -1) for kind in h.KINDS for mode in h.MODES])

    def test_nothing(self):
        for kind in h.KINDS:
            self.assertEqual([h.floated(kind, mode, 0) for mode in h.MODES], [0] * 5)

    def test_both_ends(self):
        self.everywhere((h.FAR, h.FAR - 1, h.FAR - 2))
        for mode in h.MODES:
            self.assertEqual(h.floated(3, mode, h.FAR), 0x433FFFFFFFFFFFFF)
            self.assertEqual(h.floated(3, mode, -h.FAR), 0xC33FFFFFFFFFFFFF)
        self.assertEqual([h.floated(2, mode, h.FAR) for mode in h.MODES],
                         [0x5A000000, 0x59FFFFFF, 0x5A000000, 0x59FFFFFF, 0x5A000000])

    def test_small_and_stirred(self):
        stirred = h.Stirred(810)
        self.everywhere(list(range(300)) + [stirred.below(2 ** (1 + i % 53)) for i in range(400)])

    def test_powers_of_two_and_their_neighbours(self):
        self.everywhere([2 ** i + apart for i in range(53) for apart in (-1, 0, 1)])

    def test_half_way_between_two_numbers(self):
        some = []
        for f in h.FRACTION_BITS[:3]:
            for up in (1, 2, 5):
                base = 2 ** (f + up)
                for count in (0, 1, 2, 3):
                    middle = base + count * 2 ** up + 2 ** (up - 1)
                    some += [middle - 1, middle, middle + 1]
        self.everywhere(some)
        self.assertEqual([h.floated(0, mode, 2049) for mode in h.MODES], [0x6800, 0x6800, 0x6801, 0x6800, 0x6801])
        self.assertEqual([h.floated(0, mode, -2051) for mode in h.MODES], [0xE802, 0xE802, 0xE801, 0xE801, 0xE802])
        self.assertEqual([h.floated(2, mode, 2 ** 24 + 1) for mode in h.MODES],
                         [0x4B800000, 0x4B800000, 0x4B800001, 0x4B800000, 0x4B800001])

    def test_what_overflows_in_a_half(self):
        for z in (65520, 65521, 65535, 65536, 10 ** 9, h.FAR):
            self.assertEqual([h.floated(0, mode, z) for mode in h.MODES], [0x7C00, 0x7BFF, 0x7C00, 0x7BFF, 0x7C00])
            self.assertEqual([h.floated(0, mode, -z) for mode in h.MODES], [0xFC00, 0xFC00, 0xFBFF, 0xFBFF, 0xFC00])
        for z in (65505, 65519):
            self.assertEqual([h.floated(0, mode, z) for mode in h.MODES], [0x7BFF, 0x7BFF, 0x7C00, 0x7BFF, 0x7BFF])
            self.assertEqual([h.floated(0, mode, -z) for mode in h.MODES], [0xFBFF, 0xFC00, 0xFBFF, 0xFBFF, 0xFBFF])
        self.assertEqual([h.floated(0, mode, 65504) for mode in h.MODES], [0x7BFF] * 5)

    def test_back_to_whole_numbers(self):
        stirred = h.Stirred(811)
        for kind in h.KINDS:
            for _ in range(100):
                z = stirred.below(2 ** (h.FRACTION_BITS[kind] + 1)) % 2 ** 47
                for one in (z, -z):
                    a = h.floated(kind, stirred.below(5), one)
                    self.assertEqual(h.ask(h.whole_call(kind, stirred.below(5), 48, 1, a)), [0, one])
