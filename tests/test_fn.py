"""fn: functions 0 to 5, against the told steps taken with Fractions and the machine's own nearest floats."""

import math
import struct
import unittest
from fractions import Fraction

from bitfloats import functions
from tests import helper as h

INF = h.INFINITY[3]
S = h.SIGN[3]
ONE = h.ONE[3]


def bits(x):
    return int.from_bytes(struct.pack("<d", x), "little")


def real(number):
    return struct.unpack("<d", number.to_bytes(8, "little"))[0]


def table(words):
    return [h.value(3, int(word, 16)) for word in words.split()]


EXP2 = table("""
    3FF0000000000000 3FE62E42FEFA39EF 3FCEBFBDFF82C58F 3FAC6B08D704A0C0 3F83B2AB6FBA4E77 3F55D87FE78A6731
    3F2430912F86C787 3EEFFCBFC588B0C7 3EB62C0223A5C824 3E7B5253D395E7C4 3E3E4CF5158B8ECA 3DFE8CAC7351BB25
    3DBC3BD650FC2986 3D7816193166D0F9
""")
LOG2 = table("""
    40071547652B82FE 3FEEC709DC3A03FD 3FE2776C50EF9BFE 3FDA61762A7ADED9 3FD484B13D7C02A9 3FD0C9A84994022D
    3FCC68F568D31760 3FC89F3B1694CFFE 3FC5B9AC9B743F0D 3FC3703C1F4D0FFE 3FC1964EC6FC9491 3FC00ECD7E080215
""")
SINE = table("""
    401921FB54442D18 C044ABBCE625BE53 405466BC6775AAE2 C0532D2CCE62BD86 40450783487EE782 C02E3074FDE8871F
    400E8F434D018D63 BFE6FADB9F155744 3FBAAEC32AF93359
""")
COSINE = table("""
    3FF0000000000000 C033BD3CC9BE45DE 40503C1F081B5AC4 C0555D3C7E3CBFFA 404E1F506891BABB C03A6D1F2A204A8C
    401F9D38A3763CC3 BFFB6E24F44B128F 3FD20C62C2F2D7F5
""")

LEAST_F = h.value(3, 0x3FE6A09E667F3BCD)


def near(x):
    """A Fraction rounded to a double: the machine's division of whole numbers does it rightly."""
    return Fraction(x.numerator / x.denominator)


def horner(row, y):
    so_far = row[-1]
    for before in row[-2::-1]:
        so_far = near(so_far * y + before)
    return so_far


def wanted_exp(mode, x):
    if h.is_nan(3, x):
        return h.NAN[3]
    if h.is_inf(3, x):
        return 0 if h.negative(3, x) else INF
    number = min(max(h.value(3, x), Fraction(-1200)), Fraction(1100))
    k = round(number)
    return h.round_to(3, mode, horner(EXP2, number - k) * h.two_to(k))


def wanted_log(mode, x):
    if h.is_nan(3, x):
        return h.NAN[3]
    if h.is_zero(3, x):
        return INF + S
    if h.negative(3, x):
        return h.NAN[3]
    if x == INF:
        return INF
    f = h.value(3, x)
    k = 0
    while f >= 2 * LEAST_F:
        f /= 2
        k += 1
    while f < LEAST_F:
        f *= 2
        k -= 1
    t = near(near(f - 1) / near(f + 1))
    return h.round_to(3, mode, t * horner(LOG2, near(t * t)) + k)


def wanted_wave(mode, x, more):
    if not h.is_finite(3, x):
        return h.NAN[3]
    minus = h.negative(3, x)
    number = h.value(3, x)
    if abs(number) >= 2 ** 52:
        number = Fraction(0)
    n = round(4 * number)
    f = number - Fraction(n, 4)
    y = near(f * f)
    part = (n + more) % 4
    turn = -1 if part >= 2 else 1
    if part % 2 == 0:
        return h.round_to(3, mode, turn * f * horner(SINE, y), minus != (turn == -1))
    return h.round_to(3, mode, turn * (horner(COSINE[1:], y) * y + COSINE[0]))


def wanted_pow(mode, x, y):
    if h.is_nan(3, x) or h.is_nan(3, y):
        return h.NAN[3]
    size = h.size(3, x)
    if h.is_inf(3, y):
        if not h.is_inf(3, x) and size == ONE:
            return ONE
        if h.is_inf(3, x):
            return 0 if h.negative(3, y) else INF
        if (size < ONE and h.negative(3, y)) or (size >= ONE and not h.negative(3, y)):
            return INF
        return 0
    power = h.value(3, y)
    odd = power.denominator == 1 and power.numerator % 2 == 1
    minus = h.negative(3, x) and odd
    if power == 0:
        return ONE
    if h.is_inf(3, x):
        return h.signed(3, minus, 0 if power < 0 else INF)
    if size == 0:
        return h.signed(3, minus, INF if power < 0 else 0)
    if h.negative(3, x) and power.denominator != 1:
        return h.NAN[3]
    exponent = h.round_to(3, 0, power * h.value(3, wanted_log(0, size)))
    if minus:
        return S + wanted_exp((0, 2, 1, 3, 4)[mode], exponent)
    return wanted_exp(mode, exponent)


def wanted_double(number, mode, x, y):
    if number == h.EXP:
        return wanted_exp(mode, x)
    if number == h.LOG:
        return wanted_log(mode, x)
    if number in (h.SIN, h.COS):
        return wanted_wave(mode, x, number - h.SIN)
    return wanted_pow(mode, x, y)


def wanted(kind, number, mode, a, b=None):
    if kind == 3:
        return wanted_double(number, mode, a, b)
    x = h.moved(kind, 3, 0, a)
    y = None if b is None else h.moved(kind, 3, 0, b)
    return h.moved(3, kind, mode, wanted_double(number, 0, x, y))


class Steps(unittest.TestCase):
    def check(self, cases):
        for case, answer in zip(cases, h.asked([h.fn_call(*case) for case in cases])):
            self.assertEqual(hex(h.bits_of(case[0], answer)), hex(wanted(*case)), case)

    def test_edges_in_each_kind_and_mode(self):
        for kind in h.KINDS:
            some = h.edges(kind) + h.nans(kind)
            self.check([(kind, number, mode, a) for number in (0, 1, 2, 3) for mode in h.MODES for a in some])

    def test_stirred_numbers(self):
        for kind in h.KINDS:
            stirred = h.Stirred(kind + 20)
            some = [stirred.bits(kind) for _ in range(40)] + [stirred.near_one(kind, 12) for _ in range(80)]
            self.check([(kind, number, mode, a) for number in (0, 1, 2, 3) for mode in h.MODES for a in some])

    def test_many_halves_and_brains(self):
        for kind in (0, 1):
            self.check([(kind, number, (a // 97) % 5, a) for number in (0, 1, 2, 3) for a in range(0, 65536, 97)])

    def test_powers_of_edges(self):
        for kind in h.KINDS:
            stirred = h.Stirred(kind + 60)
            some = h.edges(kind)[::2] + h.edges(kind)[1::6] + h.nans(kind)[:2] + tuple(
                h.moved(3, kind, 0, bits(x)) for x in (-3.0, -2.0, -0.5, -1.0, 3.0, 2.5, -7.0, 9.0))
            self.check([(kind, h.POW, stirred.below(5), a, b) for a in some for b in some])

    def test_powers_of_stirred_numbers(self):
        for kind in h.KINDS:
            stirred = h.Stirred(kind + 70)
            cases = []
            for i in range(150):
                whole = h.moved(3, kind, 0, bits(float(stirred.below(40) - 20)))
                cases.append((kind, h.POW, i % 5, stirred.near_one(kind, 3), whole))
                cases.append((kind, h.POW, i % 5, h.size(kind, stirred.near_one(kind, 4)), stirred.near_one(kind, 4)))
                cases.append((kind, h.POW, i % 5, stirred.bits(kind), stirred.bits(kind)))
            self.check(cases)

    def test_far_out(self):
        """Ends of 2^x, of the turns and of the logarithm's f, with their neighbours."""
        places = []
        for x in (-1200.0, -1100.5, -1075.0, -1074.0, -1022.5, 1023.0, 1024.0, 1100.0, 0.5, 1.5, 2.5, 2.0 ** 50,
                  2.0 ** 51 + 0.5, 2.0 ** 52, 2.0 ** 53 + 2, 0.125, 0.375, 0.625, 1 / 3, 1e-300, 1e300):
            places += [bits(x) - 1, bits(x), bits(x) + 1]
        for f in (0x3FE6A09E667F3BCD, 0x3FF6A09E667F3BCD, 0x4006A09E667F3BCD, 0x0006A09E667F3BCD):
            places += [f - 1, f, f + 1]
        places = [one ^ minus for one in places for minus in (0, S)]
        self.check([(3, number, mode, a) for number in (0, 1, 2, 3) for mode in h.MODES for a in places])

    def test_many_logarithms(self):
        """How t t is rounded shows in few answers only."""
        stirred = h.Stirred(123)
        some = [h.size(3, stirred.near_one(3, 0)) for _ in range(4000)]
        self.check([(3, h.LOG, stirred.below(5), a) for a in some])

    def test_they_come_near_to_what_they_are_called(self):
        stirred = h.Stirred(99)
        for _ in range(200):
            a = h.size(3, stirred.near_one(3, 2))
            x = real(a)
            for number, y in ((h.EXP, 2.0 ** x), (h.LOG, math.log2(x)), (h.SIN, math.sin(2 * math.pi * math.fmod(x, 1))),
                              (h.COS, math.cos(2 * math.pi * math.fmod(x, 1))), (h.POW, x ** 1.75)):
                given = real(h.fn(3, number, 0, a, bits(1.75)))
                self.assertTrue(math.isclose(given, y, rel_tol=1e-13, abs_tol=1e-14), (number, x, given, y))


class SpecialCases(unittest.TestCase):
    def each(self, number, rows):
        """Rows of doubles (a, perhaps b, what comes out), in each kind and mode."""
        for kind in h.KINDS:
            for mode in h.MODES:
                for given in rows:
                    told = [h.moved(3, kind, 0, bits(x)) for x in given]
                    self.assertEqual(hex(h.fn(kind, number, mode, *told[:-1])), hex(told[-1]), (kind, number, mode, given))

    nan = float("nan")
    inf = float("inf")

    def test_power_of_two(self):
        self.each(h.EXP, ((self.inf, self.inf), (-self.inf, 0.0), (self.nan, self.nan), (0.0, 1.0), (-0.0, 1.0)))

    def test_power_of_two_beyond_the_ends(self):
        for a in (bits(1024.0), bits(1100.0), bits(1e308)):
            self.assertEqual([h.fn(3, h.EXP, mode, a) for mode in h.MODES], [INF, INF - 1, INF, INF - 1, INF])
        for a in (bits(-1076.0), bits(-1200.0), bits(-1e308)):
            self.assertEqual([h.fn(3, h.EXP, mode, a) for mode in h.MODES], [0, 0, 1, 0, 0])
        self.assertEqual([h.fn(3, h.EXP, mode, bits(-1075.0)) for mode in h.MODES], [0, 0, 1, 0, 1])
        # Of other formats the double is rounded by the mode.
        self.assertEqual([h.fn(0, h.EXP, mode, 0x4C00) for mode in h.MODES], [0x7C00, 0x7BFF, 0x7C00, 0x7BFF, 0x7C00])
        self.assertEqual([h.fn(0, h.EXP, mode, 0xCE40) for mode in h.MODES], [0, 0, 1, 0, 1])
        self.assertEqual([h.fn(0, h.EXP, mode, 0xCE41) for mode in h.MODES], [0, 0, 1, 0, 0])

    def test_logarithm(self):
        self.each(h.LOG, ((0.0, -self.inf), (-0.0, -self.inf), (-1.0, self.nan), (-self.inf, self.nan),
                          (self.inf, self.inf), (self.nan, self.nan), (1.0, 0.0), (2.0, 1.0), (0.25, -2.0)))

    def test_waves(self):
        for number in (h.SIN, h.COS):
            self.each(number, ((self.inf, self.nan), (-self.inf, self.nan), (self.nan, self.nan)))
        self.each(h.SIN, ((0.0, 0.0), (-0.0, -0.0), (0.25, 1.0), (-0.25, -1.0), (0.5, -0.0), (-0.5, 0.0), (0.75, -1.0),
                          (1.0, 0.0), (-1.0, -0.0), (1.25, 1.0), (1.5, -0.0)))
        self.each(h.COS, ((0.0, 1.0), (-0.0, 1.0), (0.25, -0.0), (-0.25, -0.0), (0.5, -1.0), (-0.5, -1.0), (0.75, 0.0),
                          (-0.75, 0.0), (1.0, 1.0), (1.5, -1.0)))
        for x in (2.0 ** 52, 2.0 ** 52 + 1, 1.5e300):
            for mode in h.MODES:
                self.assertEqual(h.fn(3, h.SIN, mode, bits(x)), 0)
                self.assertEqual(h.fn(3, h.SIN, mode, bits(-x)), S)
                self.assertEqual(h.fn(3, h.COS, mode, bits(-x)), ONE)
        self.assertEqual(h.fn(3, h.SIN, 0, bits(2.0 ** 52 - 0.5)), S)

    def test_roots(self):
        self.each(h.ROOT, ((0.0, 0.0), (-0.0, -0.0), (-1.0, self.nan), (-self.inf, self.nan), (self.inf, self.inf),
                           (self.nan, self.nan), (1.0, 1.0), (4.0, 2.0), (0.25, 0.5), (2.25, 1.5)))
        for kind in h.KINDS:
            self.assertEqual(h.fn(kind, h.ROOT, 2, h.SIGN[kind] + 1), h.NAN[kind])

    def test_powers(self):
        inf, nan = self.inf, self.nan
        rows = [(nan, 0.0, nan), (1.0, nan, nan), (nan, nan, nan), (inf, nan, nan), (nan, inf, nan)]
        rows += [(x, y, 1.0) for x in (0.0, -0.0, 2.0, -2.0, inf, -inf) for y in (0.0, -0.0)]
        rows += [(0.0, 3.0, 0.0), (-0.0, 3.0, -0.0), (-0.0, 2.0, 0.0), (-0.0, 0.5, 0.0), (0.0, 0.5, 0.0)]
        rows += [(0.0, -3.0, inf), (-0.0, -3.0, -inf), (-0.0, -2.0, inf), (-0.0, -0.5, inf), (0.0, -1.0, inf)]
        rows += [(-2.0, 0.5, nan), (-1.0, 1.5, nan), (-2.0, 2.0, 4.0), (-2.0, 3.0, -8.0), (-2.0, -1.0, -0.5)]
        rows += [(inf, 2.0, inf), (inf, -2.0, 0.0), (-inf, 3.0, -inf), (-inf, 2.0, inf), (-inf, 0.5, inf)]
        rows += [(-inf, -3.0, -0.0), (-inf, -2.0, 0.0), (-inf, -0.5, 0.0)]
        rows += [(x, y, 1.0) for x in (1.0, -1.0) for y in (inf, -inf)]
        rows += [(0.5, -inf, inf), (-0.5, -inf, inf), (0.0, -inf, inf), (-0.0, -inf, inf), (2.0, inf, inf), (-2.0, inf, inf)]
        rows += [(0.5, inf, 0.0), (-0.5, inf, 0.0), (-0.0, inf, 0.0), (2.0, -inf, 0.0), (-2.0, -inf, 0.0)]
        rows += [(inf, inf, inf), (-inf, inf, inf), (inf, -inf, 0.0), (-inf, -inf, 0.0), (1.0, 3.0, 1.0), (-1.0, 3.0, -1.0)]
        self.each(h.POW, rows)

    def test_the_mode_of_negative_powers(self):
        # (-2)^1025 is too great, (-2)^-1075 half the least unit: with the sign goes the mode.
        self.assertEqual([h.fn(3, h.POW, mode, bits(-2.0), bits(1025.0)) for mode in h.MODES],
                         [S + INF, S + INF, S + INF - 1, S + INF - 1, S + INF])
        self.assertEqual([h.fn(3, h.POW, mode, bits(-2.0), bits(-1075.0)) for mode in h.MODES], [S, S + 1, S, S, S + 1])
        self.assertEqual([h.fn(0, h.POW, mode, 0xC000, 0x4C40) for mode in h.MODES],
                         [0xFC00, 0xFC00, 0xFBFF, 0xFBFF, 0xFC00])

    def test_great_odd_powers(self):
        minus = bits(-1.0)
        for y in (2.0 ** 51 + 1, 2.0 ** 52 + 1, 2.0 ** 53 - 1):
            self.assertEqual([h.fn(3, h.POW, 0, minus, bits(z)) for z in (y, -y, y - 1)], [minus, minus, ONE])
        for y in (2.0 ** 53, 2.0 ** 53 + 2, 2.0 ** 54 + 4, 1e300):
            self.assertEqual([h.fn(3, h.POW, 0, minus, bits(z)) for z in (y, -y)], [ONE, ONE])
        self.assertEqual(h.fn(3, h.POW, 0, minus, bits(2.0 ** 51 + 0.5)), h.NAN[3])

    def test_an_infinite_product_comes_out_infinite_in_each_mode(self):
        # y times the logarithm goes to infinity by the told step to nearest, and 2^infinity has no last step.
        for mode in h.MODES:
            self.assertEqual(h.fn(3, h.POW, mode, bits(2.0 ** 40), bits(1e308)), INF)
            self.assertEqual(h.fn(3, h.POW, mode, bits(2.0 ** 40), bits(-1e308)), 0)


class Exact(unittest.TestCase):
    """2^x of whole numbers, logarithms of powers of two, roots: exact or rounded once."""

    def test_power_of_two_of_whole_numbers(self):
        for kind in h.KINDS:
            cases = []
            for z in list(range(-1210, 1111, 3)) + list(range(-160, 140)):
                a = h.moved(3, kind, 0, bits(float(z)))
                if h.value(kind, a) == z:
                    cases += [(kind, h.EXP, mode, a) for mode in (z % 5, (z + 2) % 5)]
            for case, answer in zip(cases, h.asked([h.fn_call(*case) for case in cases])):
                exact = h.two_to(h.value(kind, case[3]).numerator)
                if kind == 3 or -1074 <= h.value(kind, case[3]) <= 1023:
                    self.assertEqual(h.bits_of(kind, answer), h.round_to(kind, case[2], exact), case)

    def test_logarithms_of_powers_of_two(self):
        for kind in h.KINDS:
            f = h.FRACTION_BITS[kind]
            powers = [1 << i for i in range(f)] + [field << f for field in range(1, 2 ** h.EXPONENT_BITS[kind] - 1)]
            cases = [(kind, h.LOG, i % 5, a) for i, a in enumerate(powers)]
            for i, (case, answer) in enumerate(zip(cases, h.asked([h.fn_call(*case) for case in cases]))):
                z = 1 - h.bias(kind) - f + i
                self.assertEqual(h.bits_of(kind, answer), h.round_to(kind, case[2], Fraction(z)), case)

    def test_roots_are_rounded_once(self):
        for kind in h.KINDS:
            stirred = h.Stirred(kind + 80)
            some = [a for a in h.edge_sizes(kind) if 0 < a < h.INFINITY[kind]]
            some += [1 + stirred.below(h.INFINITY[kind] - 1) for _ in range(300)]
            some += [h.size(kind, stirred.near_one(kind, 1)) for _ in range(100)]
            cases = [(kind, h.ROOT, mode, a) for a in some for mode in h.MODES]
            for case, answer in zip(cases, h.asked([h.fn_call(*case) for case in cases])):
                self.check_root(kind, case[2], h.value(kind, case[3]), h.bits_of(kind, answer))

    def check_root(self, kind, mode, x, out):
        y = h.value(kind, out)
        below = h.value(kind, out - 1)
        above = h.value(kind, out + 1)
        if y * y == x:
            return
        if mode in (1, 3):
            self.assertTrue(y * y < x < above * above)
        elif mode == 2:
            self.assertTrue(below * below < x < y * y)
        else:
            # No root lies half way: it would have one digit more than a number can be the square of.
            self.assertTrue(((y + below) / 2) ** 2 < x < ((y + above) / 2) ** 2)

    def test_roots_as_the_machine_does(self):
        stirred = h.Stirred(12)
        for _ in range(200):
            a = 1 + stirred.below(INF - 1)
            self.assertEqual(h.fn(3, h.ROOT, 0, a), bits(math.sqrt(real(a))))


class Tables(unittest.TestCase):
    """A last digit of a late number hardly ever shows in an answer, so the tables are looked at themselves."""

    def test_tables(self):
        rows = ((functions.EXP2, EXP2), (functions.LOG2, LOG2), (functions.SINE, SINE),
                ((functions.COSINE_FIRST,) + functions.COSINE_OTHERS, COSINE))
        for own, told in rows:
            self.assertEqual([h.value(3, one) for one in own], told)


class WhatIsLookedAt(unittest.TestCase):
    def test_b_has_no_say_but_in_powers(self):
        for kind in h.KINDS:
            a = h.row(kind, h.ONE[kind] + 5)
            for number in (0, 1, 2, 3, 4):
                out = h.ask(h.call(h.FN, (kind, number, 0), (a, [])))
                for b in ([], [1], [255] * 8, h.row(kind, h.NAN[kind])):
                    self.assertEqual(h.ask(h.call(h.FN, (kind, number, 0), (a, b))), out)
                self.assertEqual(out[0], 0)
