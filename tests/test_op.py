"""op: operations 0 to 10."""

import struct
import unittest

from tests import helper as h


def wanted_product(kind, mode, a, b):
    minus = h.negative(kind, a) != h.negative(kind, b)
    if h.is_nan(kind, a) or h.is_nan(kind, b):
        return h.NAN[kind]
    if h.is_inf(kind, a) or h.is_inf(kind, b):
        none = h.is_zero(kind, a) or h.is_zero(kind, b)
        return h.NAN[kind] if none else h.signed(kind, minus, h.INFINITY[kind])
    return h.round_to(kind, mode, h.value(kind, a) * h.value(kind, b), minus)


def wanted_quotient(kind, mode, a, b):
    minus = h.negative(kind, a) != h.negative(kind, b)
    if h.is_nan(kind, a) or h.is_nan(kind, b):
        return h.NAN[kind]
    if h.is_inf(kind, a):
        return h.NAN[kind] if h.is_inf(kind, b) else h.signed(kind, minus, h.INFINITY[kind])
    if h.is_inf(kind, b):
        return h.signed(kind, minus, 0)
    if h.is_zero(kind, b):
        return h.NAN[kind] if h.is_zero(kind, a) else h.signed(kind, minus, h.INFINITY[kind])
    return h.round_to(kind, mode, h.value(kind, a) / h.value(kind, b), minus)


def wanted_rest(kind, mode, a, b):
    if h.is_nan(kind, a) or h.is_nan(kind, b) or h.is_inf(kind, a) or h.is_zero(kind, b):
        return h.NAN[kind]
    if h.is_inf(kind, b):
        return a
    x = h.value(kind, a)
    y = h.value(kind, b)
    # Python's round of a Fraction is to nearest, of two the even.
    return h.round_to(kind, mode, x - y * round(x / y), h.negative(kind, a))


def wanted_whole(kind, mode, a):
    if h.is_nan(kind, a):
        return h.NAN[kind]
    if h.is_inf(kind, a):
        return a
    return h.round_to(kind, 0, h.Fraction(h.to_whole(mode, h.value(kind, a))), h.negative(kind, a))


WANTED = {h.ADD: h.wanted_sum, h.MUL: wanted_product, h.DIV: wanted_quotient, h.REST: wanted_rest}


def wanted(kind, number, mode, a, b):
    if number == h.SUB:
        flipped = b if h.is_nan(kind, b) else b ^ h.SIGN[kind]
        return h.wanted_sum(kind, mode, a, flipped)
    return WANTED[number](kind, mode, a, b)


class Exactly(unittest.TestCase):
    def check(self, cases):
        given = h.asked([h.op_call(*case) for case in cases])
        for case, answer in zip(cases, given):
            kind = case[0]
            self.assertEqual(hex(h.bits_of(kind, answer)), hex(wanted(*case)), case)

    def test_edges_of_each_kind_in_each_mode(self):
        for kind in h.KINDS:
            some = h.edges(kind) + h.nans(kind)[:2]
            stirred = h.Stirred(kind)
            cases = []
            for number in (h.ADD, h.SUB, h.MUL, h.DIV, h.REST):
                for a in some:
                    for b in some:
                        # Each pair in two modes; over the pairs each mode has its turn with each edge.
                        for mode in (stirred.below(5), stirred.below(5)):
                            cases.append((kind, number, mode, a, b))
            self.check(cases)

    def test_stirred_numbers(self):
        stirred = h.Stirred(77)
        cases = []
        for kind in h.KINDS:
            for number in (h.ADD, h.SUB, h.MUL, h.DIV, h.REST):
                for mode in h.MODES:
                    for _ in range(30):
                        cases.append((kind, number, mode, stirred.bits(kind), stirred.bits(kind)))
                        cases.append((kind, number, mode, stirred.near_one(kind, 3), stirred.near_one(kind, 3)))
        self.check(cases)

    def test_half_way_between_two_numbers(self):
        cases = []
        for kind in h.KINDS:
            f = h.FRACTION_BITS[kind]
            one = h.ONE[kind]
            half_unit = one - ((f + 1) << f)
            for a in (one, one + 1, one + 2, one + 2 ** f - 1):
                for minus in (0, h.SIGN[kind]):
                    for number in (h.ADD, h.SUB):
                        for b in (half_unit - 1, half_unit, half_unit + 1):
                            cases += [(kind, number, mode, a + minus, b + minus) for mode in h.MODES]
            # Halves of the least unit, and three of them.
            for a in (1, 3, 5, h.SIGN[kind] + 1, h.SIGN[kind] + 3):
                cases += [(kind, h.DIV, mode, a, one + (1 << f)) for mode in h.MODES]
        self.check(cases)

    def test_a_tie_in_words(self):
        # Halves: 1 + 2^-11 lies half way between 3C00 and 3C01, 3C01 + 2^-11 between 3C01 and 3C02.
        self.assertEqual([h.op(0, h.ADD, mode, 0x3C00, 0x1000) for mode in h.MODES],
                         [0x3C00, 0x3C00, 0x3C01, 0x3C00, 0x3C01])
        self.assertEqual([h.op(0, h.ADD, mode, 0x3C01, 0x1000) for mode in h.MODES],
                         [0x3C02, 0x3C01, 0x3C02, 0x3C01, 0x3C02])
        self.assertEqual([h.op(0, h.ADD, mode, 0xBC00, 0x9000) for mode in h.MODES],
                         [0xBC00, 0xBC01, 0xBC00, 0xBC00, 0xBC01])

    def test_overflow_in_words(self):
        # 65504 + 16 lies half way to 65536, the first that is infinity's; 65504 + 15.99 does not get there.
        self.assertEqual([h.op(0, h.ADD, mode, 0x7BFF, 0x4C00) for mode in h.MODES],
                         [0x7C00, 0x7BFF, 0x7C00, 0x7BFF, 0x7C00])
        self.assertEqual([h.op(0, h.ADD, mode, 0x7BFF, 0x4BFF) for mode in h.MODES],
                         [0x7BFF, 0x7BFF, 0x7C00, 0x7BFF, 0x7BFF])
        self.assertEqual([h.op(0, h.ADD, mode, 0xFBFF, 0xFBFF) for mode in h.MODES],
                         [0xFC00, 0xFC00, 0xFBFF, 0xFBFF, 0xFC00])

    def test_what_rounds_to_nothing_keeps_its_sign(self):
        for kind in h.KINDS:
            s = h.SIGN[kind]
            self.assertEqual([h.op(kind, h.MUL, mode, 1, 1) for mode in h.MODES], [0, 0, 1, 0, 0])
            self.assertEqual([h.op(kind, h.MUL, mode, 1, s + 1) for mode in h.MODES], [s, s + 1, s, s, s])

    def test_as_the_machine_does(self):
        stirred = h.Stirred(5)
        for _ in range(300):
            a = stirred.near_one(3, 40)
            b = stirred.near_one(3, 40)
            x = struct.unpack("<d", a.to_bytes(8, "little"))[0]
            y = struct.unpack("<d", b.to_bytes(8, "little"))[0]
            for number, z in ((h.ADD, x + y), (h.SUB, x - y), (h.MUL, x * y), (h.DIV, x / y)):
                self.assertEqual(h.op(3, number, 0, a, b), int.from_bytes(struct.pack("<d", z), "little"))


class SpecialCases(unittest.TestCase):
    def check(self, number, rows, modes=h.MODES):
        """Rows of a, b and what comes out, as sizes by name, in each kind."""
        for kind in h.KINDS:
            for mode in modes:
                for a, b, out in rows:
                    given = h.op(kind, number, mode, named(kind, a), named(kind, b))
                    self.assertEqual(hex(given), hex(named(kind, out)), (kind, number, mode, a, b))

    def test_signs_of_sums_of_nothing(self):
        self.check(h.ADD, (("0", "0", "0"), ("-0", "-0", "-0")))
        self.check(h.SUB, (("0", "-0", "0"), ("-0", "0", "-0")))
        others = (("0", "-0"), ("-0", "0"), ("1", "-1"), ("-1", "1"), ("max", "-max"), ("least", "-least"))
        self.check(h.ADD, [pair + ("0",) for pair in others], (0, 2, 3, 4))
        self.check(h.ADD, [pair + ("-0",) for pair in others], (1,))
        same = (("0", "0"), ("-0", "-0"), ("1", "1"), ("-1", "-1"), ("max", "max"), ("-least", "-least"))
        self.check(h.SUB, [pair + ("0",) for pair in same], (0, 2, 3, 4))
        self.check(h.SUB, [pair + ("-0",) for pair in same], (1,))

    def test_infinities(self):
        self.check(h.ADD, (("inf", "inf", "inf"), ("-inf", "-inf", "-inf"), ("inf", "-inf", "nan"),
                           ("-inf", "inf", "nan"), ("inf", "-max", "inf"), ("-0", "-inf", "-inf")))
        self.check(h.SUB, (("inf", "-inf", "inf"), ("inf", "inf", "nan"), ("-inf", "-inf", "nan"), ("1", "inf", "-inf")))
        self.check(h.MUL, (("inf", "-1", "-inf"), ("-inf", "-inf", "inf"), ("0", "inf", "nan"), ("-inf", "-0", "nan"),
                           ("least", "-inf", "-inf")))
        self.check(h.DIV, (("inf", "inf", "nan"), ("-inf", "inf", "nan"), ("0", "0", "nan"), ("-0", "0", "nan"),
                           ("1", "0", "inf"), ("1", "-0", "-inf"), ("-1", "0", "-inf"), ("-least", "-0", "inf"),
                           ("inf", "0", "inf"), ("inf", "-0", "-inf"), ("-inf", "-1", "inf"),
                           ("1", "inf", "0"), ("1", "-inf", "-0"), ("-0", "inf", "-0"), ("0", "max", "0")))

    def test_signs_of_products_of_nothing(self):
        rows = (("0", "1", "0"), ("-0", "1", "-0"), ("0", "-1", "-0"), ("-0", "-1", "0"), ("-0", "-0", "0"))
        self.check(h.MUL, rows)
        self.check(h.DIV, rows[:4])

    def test_rest(self):
        self.check(h.REST, (("1", "inf", "1"), ("-0", "-inf", "-0"), ("max", "inf", "max"), ("inf", "1", "nan"),
                            ("-inf", "inf", "nan"), ("1", "0", "nan"), ("0", "-0", "nan"), ("0", "1", "0"),
                            ("-0", "1", "-0"), ("-0", "-1", "-0"), ("-1", "1", "-0"), ("1", "-1", "0"),
                            ("max", "least", "0"), ("-max", "least", "-0"), ("least", "max", "least"),
                            ("1", "2", "1"), ("3", "2", "-1"), ("-3", "2", "1"), ("-1", "2", "-1")))

    def test_lesser_and_greater(self):
        rows = (("1", "2"), ("-2", "-1"), ("-0", "0"), ("-inf", "-max"), ("max", "inf"), ("-least", "-0"), ("0", "least"))
        for low, high in rows:
            self.check(h.LESSER, ((low, high, low), (high, low, low), (low, low, low)))
            self.check(h.GREATER, ((low, high, high), (high, low, high), (high, high, high)))
        for number in (h.LESSER, h.GREATER):
            for nan in ("nan", "+nan", "snan", "-snan"):
                for one in ("1", "-0", "inf", "-inf", "-least"):
                    self.check(number, ((nan, one, one), (one, nan, one)))
                self.check(number, ((nan, "snan", "nan"), ("-snan", nan, "nan")))

    def test_size_minus_and_sign(self):
        for one in ("0", "least", "1", "max", "inf"):
            for b in ("0", "-inf", "snan"):
                self.check(h.SIZE, ((one, b, one), ("-" + one, b, one)))
                self.check(h.MINUS, ((one, b, "-" + one), ("-" + one, b, one)))
            for plus in ("0", "3", "inf", "nan", "+nan", "snan", "-snan"):
                self.check(h.COPY, ((one, plus, one), ("-" + one, plus, one)))
            for minus in ("-0", "-3", "-inf"):
                self.check(h.COPY, ((one, minus, "-" + one), ("-" + one, minus, "-" + one)))

    def test_any_nan_goes_in_and_the_nan_comes_out(self):
        for kind in h.KINDS:
            cases = []
            for nan in h.nans(kind):
                for mode in h.MODES:
                    for other in (h.ONE[kind], 0, h.INFINITY[kind], h.INFINITY[kind] + 1):
                        cases += [h.op_call(kind, number, mode, nan, other) for number in (0, 1, 2, 3, 4, 7, 8, 9, 10)]
                        cases += [h.op_call(kind, number, mode, other, nan) for number in (0, 1, 2, 3, 4)]
            for answer in h.asked(cases):
                self.assertEqual(h.bits_of(kind, answer), h.NAN[kind])



def named(kind, name):
    f = h.FRACTION_BITS[kind]
    names = {
        "0": 0, "least": 1, "1": h.ONE[kind], "2": h.ONE[kind] + (1 << f), "3": h.ONE[kind] + (3 << (f - 1)),
        "max": h.INFINITY[kind] - 1, "inf": h.INFINITY[kind], "snan": h.INFINITY[kind] + 1,
    }
    if name == "nan":
        return h.NAN[kind]
    if name == "+nan":
        return h.NAN[kind] - h.SIGN[kind]
    return names[name[1:]] + h.SIGN[kind] if name[0] == "-" else names[name]


class WholeNumbers(unittest.TestCase):
    def test_edges_and_stirred_numbers(self):
        for kind in h.KINDS:
            stirred = h.Stirred(kind + 9)
            some = list(h.edges(kind)) + [stirred.near_one(kind, h.FRACTION_BITS[kind] + 2) for _ in range(200)]
            cases = [(kind, h.WHOLE, mode, a) for a in some for mode in h.MODES]
            given = h.asked([h.op_call(*case) for case in cases])
            for case, answer in zip(cases, given):
                self.assertEqual(h.bits_of(kind, answer), wanted_whole(kind, case[2], case[3]), case)

    def test_halves_in_words(self):
        # 0.5, 1.5, 2.5 and their negatives, in halves.
        one, two, three = 0x3C00, 0x4000, 0x4200
        rows = ((0x3800, (0, 0, one, 0, one)), (0x3E00, (two, one, two, one, two)), (0x4100, (two, two, three, two, three)))
        for a, out in rows:
            self.assertEqual(tuple(h.op(0, h.WHOLE, mode, a) for mode in h.MODES), out)
            turned = (out[0], out[2], out[1], out[3], out[4])
            self.assertEqual(tuple(h.op(0, h.WHOLE, mode, a + 0x8000) for mode in h.MODES),
                             tuple(bits + 0x8000 for bits in turned))
