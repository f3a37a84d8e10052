"""Refusals: what is answered by -1, which rows are looked at, and that a refusal changes nothing."""

import unittest

from bitfloats.numbers import answers
from tests import helper as h

FAR = (h.FAR, h.FAR - 1, 2 ** 32, 2 ** 31, 256, 100)
BEYOND_KINDS = (4, 5) + FAR
BEYOND_MODES = (5, 6) + FAR


def rows(kind, count):
    return tuple(h.row(kind, h.ONE[kind]) for _ in range(count))


class Refusals(unittest.TestCase):
    def refused(self, number, wholes, some, out=-1):
        self.assertEqual(answers(h.call(number, wholes, some)), [1, out], (number, wholes, some))

    def taken(self, number, wholes, some):
        self.assertEqual(h.ask(h.call(number, wholes, some))[0], 0, (number, wholes, some))

    def test_kinds(self):
        for kind in BEYOND_KINDS:
            for count in (0, 2, 4, 8):
                one = [0] * count
                self.refused(h.OP, (kind, 0, 0), (one, one))
                self.refused(h.FMA, (kind, 0), (one, one, one))
                self.refused(h.SCALE, (kind, 0, 0), (one,))
                self.refused(h.CONV, (kind, 0, 0), (one,))
                self.refused(h.FN, (kind, 0, 0), (one, one))
                self.refused(h.CMP, (kind, 0), (one, one))
                self.refused(h.TEXT, (kind,), (one,))
            self.refused(h.READ, (kind, 0), (list(b"1"),))
            self.refused(h.READ, (kind, 0), (list(b"none"),))
            for known in h.KINDS:
                self.refused(h.CONV, (known, kind, 0), rows(known, 1))

    def test_modes(self):
        for kind in h.KINDS:
            for mode in BEYOND_MODES:
                for number in range(11):
                    self.refused(h.OP, (kind, number, mode), rows(kind, 2))
                self.refused(h.FMA, (kind, mode), rows(kind, 3))
                self.refused(h.SCALE, (kind, mode, 0), rows(kind, 1))
                self.refused(h.CONV, (kind, 3 - kind, mode), rows(kind, 1))
                for number in range(6):
                    self.refused(h.FN, (kind, number, mode), rows(kind, 2))
                self.refused(h.READ, (kind, mode), (list(b"1"),))
                self.refused(h.READ, (kind, mode), ([],))

    def test_operations_functions_hows(self):
        for kind in h.KINDS:
            for number in (11, 12) + FAR:
                self.refused(h.OP, (kind, number, 0), rows(kind, 2))
            for number in (6, 7) + FAR:
                self.refused(h.FN, (kind, number, 0), rows(kind, 2))
                self.refused(h.FN, (kind, number, 0), rows(kind, 1) + ([],))
            for how in (2, 3) + FAR:
                self.refused(h.CMP, (kind, how), rows(kind, 2))

    def test_the_last_that_are_told(self):
        for kind in h.KINDS:
            self.taken(h.OP, (kind, 10, 4), rows(kind, 2))
            self.taken(h.FMA, (kind, 4), rows(kind, 3))
            self.taken(h.SCALE, (kind, 4, 5000), rows(kind, 1))
            self.taken(h.SCALE, (kind, 4, -5000), rows(kind, 1))
            self.taken(h.CONV, (kind, 3, 4), rows(kind, 1))
            self.taken(h.FN, (kind, 5, 4), rows(kind, 2))
            self.taken(h.CMP, (kind, 1), rows(kind, 2))
            self.taken(h.TEXT, (kind,), rows(kind, 1))
            self.taken(h.READ, (kind, 4), (list(b"1"),))

    def test_k(self):
        for kind in h.KINDS:
            for k in (5001, 5002, 2 ** 31, h.FAR):
                self.refused(h.SCALE, (kind, 0, k), rows(kind, 1))
                self.refused(h.SCALE, (kind, 0, -k), rows(kind, 1))

    def test_too_few_and_too_many_bytes(self):
        for kind in h.KINDS:
            for count in range(9):
                if count == h.BYTES[kind]:
                    continue
                wrong = [0] * count
                right = h.row(kind, h.ONE[kind])
                for number in range(11):
                    self.refused(h.OP, (kind, number, 0), (wrong, right))
                    self.refused(h.OP, (kind, number, 0), (right, wrong))
                for some in ((wrong, right, right), (right, wrong, right), (right, right, wrong)):
                    self.refused(h.FMA, (kind, 0), some)
                self.refused(h.SCALE, (kind, 0, 0), (wrong,))
                for to in h.KINDS:
                    self.refused(h.CONV, (kind, to, 0), (wrong,))
                for number in range(6):
                    self.refused(h.FN, (kind, number, 0), (wrong, right))
                for number in range(5):
                    self.taken(h.FN, (kind, number, 0), (right, wrong))
                self.refused(h.FN, (kind, 5, 0), (right, wrong))
                for how in (0, 1):
                    self.refused(h.CMP, (kind, how), (wrong, right))
                    self.refused(h.CMP, (kind, how), (right, wrong))
                self.refused(h.TEXT, (kind,), (wrong,))

    def test_texts(self):
        for kind in h.KINDS:
            self.refused(h.READ, (kind, 0), ([48] * 61,))
            self.refused(h.READ, (kind, 0), ([],), -2)
            self.refused(h.READ, (kind, 0), (list(b"-nan"),), -2)

    def test_a_refusal_changes_nothing(self):
        stirred = h.Stirred(2)
        good = [h.op_call(0, h.ADD, 0, stirred.bits(0), stirred.bits(0)), h.text_call(3, stirred.bits(3)),
                h.fn_call(2, h.LOG, 1, h.size(2, stirred.near_one(2, 5))), h.cmp_call(1, 1, stirred.bits(1), stirred.bits(1)),
                h.read_call(3, 2, "1.25e-3")]
        bad = [h.call(h.OP, (0, 11, 0), rows(0, 2)), h.call(h.TEXT, (9,), ([1] * 8,)), h.read_call(0, 0, "none"),
               h.call(h.FMA, (3, 0), ([], [], [])), h.call(h.SCALE, (0, 0, -h.FAR), rows(0, 1))]
        plain = h.split(answers(sum(good, [])))
        mixed = h.split(answers(sum((one + other for one, other in zip(bad, good)), [])))
        self.assertEqual(mixed[1::2], plain)
        self.assertEqual(mixed[::2], [[-1], [-1], [-2], [-1], [-1]])
