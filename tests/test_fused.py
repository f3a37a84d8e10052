"""fma, scale and conv."""

import struct
import unittest

from tests import helper as h


class Fused(unittest.TestCase):
    def check(self, cases):
        given = h.asked([h.fma_call(*case) for case in cases])
        for case, answer in zip(cases, given):
            self.assertEqual(hex(h.bits_of(case[0], answer)), hex(h.wanted_fused(*case)), case)

    def test_edges(self):
        for kind in h.KINDS:
            stirred = h.Stirred(kind + 1)
            some = h.edges(kind) + h.nans(kind)[:2]
            cases = []
            for a in some:
                for b in some:
                    for _ in range(3):
                        cases.append((kind, stirred.below(5), a, b, some[stirred.below(len(some))]))
            self.check(cases)

    def test_stirred_numbers(self):
        stirred = h.Stirred(31)
        cases = []
        for kind in h.KINDS:
            for mode in h.MODES:
                for _ in range(40):
                    cases.append((kind, mode, stirred.bits(kind), stirred.bits(kind), stirred.bits(kind)))
                    cases.append((kind, mode) + tuple(stirred.near_one(kind, 2) for _ in range(3)))
        self.check(cases)

    def test_cancellation(self):
        stirred = h.Stirred(8)
        cases = []
        for kind in h.KINDS:
            for mode in h.MODES:
                for _ in range(20):
                    a = stirred.near_one(kind, 2)
                    b = stirred.near_one(kind, 2)
                    c = h.op(kind, h.MUL, 0, a, b) ^ h.SIGN[kind]
                    cases.append((kind, mode, a, b, c))
                    # 1 times a less a: nothing is left.
                    cases.append((kind, mode, a, h.ONE[kind], a ^ h.SIGN[kind]))
        self.check(cases)

    def test_rounded_once_not_twice(self):
        # Halves: (1 + 2^-10)^2 - 1 - 2^-9 is 2^-20 left over, gone if the product were rounded.
        self.assertEqual(h.fma(0, 0, 0x3C01, 0x3C01, 0xBC02), 0x0010)

    def test_nothing_and_infinity(self):
        for kind in h.KINDS:
            s, one, inf = h.SIGN[kind], h.ONE[kind], h.INFINITY[kind]
            for mode in h.MODES:
                else_zero = s if mode == 1 else 0
                rows = (
                    ((0, one, 0), 0), ((s, one, s), s), ((0, s + one, s), s), ((s, s, 0), 0),
                    ((0, one, s), else_zero), ((s, one, 0), else_zero), ((one, one, s + one), else_zero),
                    ((0, one, one), one), ((s, one, s + 1), s + 1), ((one, one, s), one),
                    ((inf, 0, one), h.NAN[kind]), ((s, inf, inf), h.NAN[kind]), ((0, inf, inf + 1), h.NAN[kind]),
                    ((inf, one, s + inf), h.NAN[kind]), ((s + inf, one, inf), h.NAN[kind]),
                    ((inf, s + one, s + inf), s + inf), ((one, one, inf), inf), ((inf - 1, inf - 1, s + inf), s + inf),
                )
                for given, out in rows:
                    self.assertEqual(hex(h.fma(kind, mode, *given)), hex(out), (kind, mode, given))
            self.assertEqual([h.fma(kind, mode, 1, 1, s) for mode in h.MODES], [0, 0, 1, 0, 0])
            self.assertEqual([h.fma(kind, mode, 1, s + 1, 0) for mode in h.MODES], [s, s + 1, s, s, s])


class Scaled(unittest.TestCase):
    def test_edges(self):
        ks = (-5000, -4999, -2100, -1075, -150, -53, -24, -2, -1, 0, 1, 2, 9, 24, 149, 1074, 2098, 4999, 5000)
        for kind in h.KINDS:
            cases = [(kind, mode, k, a) for mode in h.MODES for k in ks for a in h.edges(kind)]
            given = h.asked([h.scale_call(*case) for case in cases])
            for case, answer in zip(cases, given):
                mode, k, a = case[1:]
                out = a
                if not h.is_inf(kind, a):
                    out = h.round_to(kind, mode, h.value(kind, a) * h.two_to(k), h.negative(kind, a))
                self.assertEqual(hex(h.bits_of(kind, answer)), hex(out), case)

    def test_nans(self):
        for kind in h.KINDS:
            for nan in h.nans(kind):
                for k in (-5000, 0, 3):
                    self.assertEqual(h.scale(kind, 1, k, nan), h.NAN[kind])

    def test_rounded_once(self):
        # Halves: 3 times the least unit, halved, is a tie: 1.5 units.
        self.assertEqual([h.scale(0, mode, -1, 3) for mode in h.MODES], [2, 1, 2, 1, 2])
        self.assertEqual([h.scale(0, mode, -1, 1) for mode in h.MODES], [0, 0, 1, 0, 1])
        self.assertEqual([h.scale(0, mode, 5000, 0x8001) for mode in h.MODES], [0xFC00, 0xFC00, 0xFBFF, 0xFBFF, 0xFC00])
        self.assertEqual([h.scale(0, mode, -5000, 0xFBFF) for mode in h.MODES], [0x8000, 0x8001, 0x8000, 0x8000, 0x8000])

    def test_k_beyond(self):
        for kind in h.KINDS:
            for k in (-h.FAR, -5001, 5001, h.FAR):
                self.assertEqual(h.ask(h.scale_call(kind, 0, k, 0)), [-1])


class Converted(unittest.TestCase):
    def test_each_to_each(self):
        for kind in h.KINDS:
            stirred = h.Stirred(kind + 40)
            some = list(h.edges(kind)) + [stirred.bits(kind) for _ in range(60)]
            some += [stirred.near_one(kind, 6) for _ in range(30)]
            for to in h.KINDS:
                cases = [(kind, to, mode, a) for a in some for mode in h.MODES]
                for case, answer in zip(cases, h.asked([h.conv_call(*case) for case in cases])):
                    self.assertEqual(hex(h.bits_of(to, answer)), hex(h.moved(*case)), case)

    def test_nans(self):
        for kind in h.KINDS:
            for to in h.KINDS:
                for nan in h.nans(kind):
                    for mode in h.MODES:
                        self.assertEqual(h.conv(kind, to, mode, nan), h.NAN[to])

    def test_ties_to_halves(self):
        # 1 + 2^-11 as a single lies half way between two halves; the greatest half and half a unit, too.
        self.assertEqual([h.conv(2, 0, mode, 0x3F801000) for mode in h.MODES], [0x3C00, 0x3C00, 0x3C01, 0x3C00, 0x3C01])
        self.assertEqual([h.conv(2, 0, mode, 0x477FF000) for mode in h.MODES], [0x7C00, 0x7BFF, 0x7C00, 0x7BFF, 0x7C00])
        self.assertEqual([h.conv(2, 0, mode, 0x33000000) for mode in h.MODES], [0, 0, 1, 0, 1])

    def test_every_half_as_the_machine_does(self):
        halves = [a for a in range(65536) if not h.is_nan(0, a)]
        given = h.asked([h.conv_call(0, 3, 0, a) for a in halves])
        for a, answer in zip(halves, given):
            x = struct.unpack("<e", a.to_bytes(2, "little"))[0]
            self.assertEqual(bytes(answer[2:]), struct.pack("<d", x))

    def test_wider_and_back_is_the_same(self):
        for kind, wider in ((0, 2), (0, 3), (1, 2), (1, 3), (2, 3), (0, 0), (1, 1), (2, 2), (3, 3)):
            stirred = h.Stirred(kind + 50)
            some = list(range(0, 65536, 7)) if kind < 2 else [stirred.bits(kind) for _ in range(2000)]
            some = [a for a in list(h.edges(kind)) + some if not h.is_nan(kind, a)]
            modes = [h.MODES[i % 5] for i in range(len(some))]
            wide = h.asked([h.conv_call(kind, wider, mode, a) for a, mode in zip(some, modes)])
            back = h.asked([h.conv_call(wider, kind, 4 - mode, h.bits_of(wider, one)) for one, mode in zip(wide, modes)])
            self.assertEqual([h.bits_of(kind, one) for one in back], some)
