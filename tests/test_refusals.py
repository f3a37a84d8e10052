"""Refusals: what is answered by -1, which rows are looked at, and that a refusal changes nothing."""

import unittest

from bitfloats.numbers import answers
from tests import helper as h

FAR = (h.FAR, h.FAR - 1, 2 ** 32, 2 ** 31, 256, 100)
BEYOND_KINDS = (4, 5) + FAR
BEYOND_MODES = (5, 6) + FAR


def rows(kind, count):
    return tuple(h.row(kind, h.ONE[kind]) for _ in range(count))


class Refusals(unittest.TestCase):
    def refused(self, number, wholes, some, out=-1):
        self.assertEqual(answers(h.call(number, wholes, some)), [1, out], (number, wholes, some))

    def taken(self, number, wholes, some):
        self.assertEqual(h.ask(h.call(number, wholes, some))[0], 0, (number, wholes, some))

    def test_kinds(self):
        for kind in BEYOND_KINDS:
            for count in (0, 2, 4, 8):
                one = [0] * count
                self.refused(h.OP, (kind, 0, 0), (one, one))
                self.refused(h.FMA, (kind, 0), (one, one, one))
                self.refused(h.SCALE, (kind, 0, 0), (one,))
                self.refused(h.CONV, (kind, 0, 0), (one,))
                self.refused(h.FN, (kind, 0, 0), (one, one))
                self.refused(h.CMP, (kind, 0), (one, one))
                self.refused(h.TEXT, (kind,), (one,))
                self.refused(h.TAKE, (kind,), (one, []))
                self.refused(h.TAKE, (kind,), (one, one))
                for order in range(5):
                    self.refused(h.SUM, (kind, order, 0), (one,))
                    self.refused(h.DOT, (kind, order, 0), (one, one))
                self.refused(h.TO_WHOLE, (kind, 0, 8, 0), (one,))
            self.refused(h.GET, (kind, 0), ())
            self.refused(h.FLOAT, (kind, 0, 0), ())
            self.refused(h.READ, (kind, 0), (list(b"1"),))
            self.refused(h.READ, (kind, 0), (list(b"none"),))
            for known in h.KINDS:
                self.refused(h.CONV, (known, kind, 0), rows(known, 1))

    def test_modes(self):
        for kind in h.KINDS:
            for mode in BEYOND_MODES:
                for number in range(11):
                    self.refused(h.OP, (kind, number, mode), rows(kind, 2))
                self.refused(h.FMA, (kind, mode), rows(kind, 3))
                self.refused(h.SCALE, (kind, mode, 0), rows(kind, 1))
                self.refused(h.CONV, (kind, 3 - kind, mode), rows(kind, 1))
                for number in range(6):
                    self.refused(h.FN, (kind, number, mode), rows(kind, 2))
                self.refused(h.READ, (kind, mode), (list(b"1"),))
                self.refused(h.READ, (kind, mode), ([],))
                self.refused(h.GET, (kind, mode), ())
                for order in range(5):
                    for count in (0, 1, 9):
                        some = h.row(kind, h.ONE[kind]) * count
                        self.refused(h.SUM, (kind, order, mode), (some,))
                        self.refused(h.DOT, (kind, order, mode), (some, some))
                self.refused(h.TO_WHOLE, (kind, mode, 8, 0), rows(kind, 1))
                for z in (0, 1, -h.FAR, h.FAR):
                    self.refused(h.FLOAT, (kind, mode, z), ())

    def test_operations_functions_hows(self):
        for kind in h.KINDS:
            for number in (11, 12) + FAR:
                self.refused(h.OP, (kind, number, 0), rows(kind, 2))
            for number in (6, 7) + FAR:
                self.refused(h.FN, (kind, number, 0), rows(kind, 2))
                self.refused(h.FN, (kind, number, 0), rows(kind, 1) + ([],))
            for how in (2, 3) + FAR:
                self.refused(h.CMP, (kind, how), rows(kind, 2))

    def test_the_last_that_are_told(self):
        for kind in h.KINDS:
            self.taken(h.OP, (kind, 10, 4), rows(kind, 2))
            self.taken(h.FMA, (kind, 4), rows(kind, 3))
            self.taken(h.SCALE, (kind, 4, 5000), rows(kind, 1))
            self.taken(h.SCALE, (kind, 4, -5000), rows(kind, 1))
            self.taken(h.CONV, (kind, 3, 4), rows(kind, 1))
            self.taken(h.FN, (kind, 5, 4), rows(kind, 2))
            self.taken(h.CMP, (kind, 1), rows(kind, 2))
            self.taken(h.TEXT, (kind,), rows(kind, 1))
            self.taken(h.READ, (kind, 4), (list(b"1"),))

    def test_k(self):
        for kind in h.KINDS:
            for k in (5001, 5002, 2 ** 31, h.FAR):
                self.refused(h.SCALE, (kind, 0, k), rows(kind, 1))
                self.refused(h.SCALE, (kind, 0, -k), rows(kind, 1))

    def test_too_few_and_too_many_bytes(self):
        for kind in h.KINDS:
            for count in range(9):
                if count == h.BYTES[kind]:
                    continue
                wrong = [0] * count
                right = h.row(kind, h.ONE[kind])
                for number in range(11):
                    self.refused(h.OP, (kind, number, 0), (wrong, right))
                    self.refused(h.OP, (kind, number, 0), (right, wrong))
                for some in ((wrong, right, right), (right, wrong, right), (right, right, wrong)):
                    self.refused(h.FMA, (kind, 0), some)
                self.refused(h.SCALE, (kind, 0, 0), (wrong,))
                for to in h.KINDS:
                    self.refused(h.CONV, (kind, to, 0), (wrong,))
                for number in range(6):
                    self.refused(h.FN, (kind, number, 0), (wrong, right))
                for number in range(5):
                    self.taken(h.FN, (kind, number, 0), (right, wrong))
                self.refused(h.FN, (kind, 5, 0), (right, wrong))
                for how in (0, 1):
                    self.refused(h.CMP, (kind, how), (wrong, right))
                    self.refused(h.CMP, (kind, how), (right, wrong))
                self.refused(h.TEXT, (kind,), (wrong,))

    def test_orders(self):
        for kind in h.KINDS:
            for order in (5, 6) + FAR:
                for count in (0, 1, 8):
                    some = h.row(kind, h.ONE[kind]) * count
                    self.refused(h.SUM, (kind, order, 0), (some,))
                    self.refused(h.DOT, (kind, order, 0), (some, some))

    def test_bits_and_signs(self):
        for kind in h.KINDS:
            for sign in (0, 1):
                for bits in (0, 49, 50, 53, 64) + FAR:
                    self.refused(h.TO_WHOLE, (kind, 0, bits, sign), rows(kind, 1))
                for bits in (1, 48):
                    self.taken(h.TO_WHOLE, (kind, 0, bits, sign), rows(kind, 1))
            for sign in (2, 3) + FAR:
                for bits in (0, 1, 8, 48):
                    self.refused(h.TO_WHOLE, (kind, 0, bits, sign), rows(kind, 1))

    def test_bytes_of_add_and_whole(self):
        for kind in h.KINDS:
            right = h.row(kind, h.ONE[kind])
            for count in range(9):
                wrong = [0] * count
                if count == h.BYTES[kind]:
                    self.taken(h.TAKE, (kind,), (wrong, []))
                    self.taken(h.TAKE, (kind,), (right, wrong))
                    self.taken(h.TO_WHOLE, (kind, 0, 8, 0), (wrong,))
                    continue
                self.refused(h.TAKE, (kind,), (wrong, []))
                self.refused(h.TAKE, (kind,), (wrong, right))
                if count:
                    self.refused(h.TAKE, (kind,), (right, wrong))
                else:
                    self.taken(h.TAKE, (kind,), (right, wrong))
                self.refused(h.TO_WHOLE, (kind, 0, 8, 0), (wrong,))

    def test_bytes_that_are_no_whole_numbers(self):
        for kind in h.KINDS:
            many = h.BYTES[kind]
            for order in range(5):
                for count in list(range(20)) + [64 * many - 1]:
                    row = [60] * count
                    told = self.taken if count % many == 0 else self.refused
                    told(h.SUM, (kind, order, 0), (row,))
                    told(h.DOT, (kind, order, 0), (row, row))

    def test_how_many_numbers(self):
        for kind in h.KINDS:
            one = h.row(kind, h.ONE[kind])
            for order in range(5):
                for count in (0, 1, 2, 63, 64):
                    self.taken(h.SUM, (kind, order, 0), (one * count,))
                    self.taken(h.DOT, (kind, order, 0), (one * count, one * count))
                # A row has 1,000 bytes at most.
                for count in sorted({65, 66, 125, 1000 // h.BYTES[kind]}):
                    self.refused(h.SUM, (kind, order, 0), (one * count,))
                    self.refused(h.DOT, (kind, order, 0), (one * count, one * count))

    def test_not_as_many(self):
        for kind in h.KINDS:
            one = h.row(kind, h.ONE[kind])
            for order in range(5):
                for some, others in ((0, 1), (1, 0), (1, 2), (2, 1), (63, 64), (64, 63), (64, 65), (65, 64), (0, 64), (8, 4)):
                    self.refused(h.DOT, (kind, order, 0), (one * some, one * others))
                self.refused(h.DOT, (kind, order, 0), (one, one + [0]))
                self.refused(h.DOT, (kind, order, 0), (one + [0], one))

    def test_sums_take_every_mode_and_order(self):
        for kind in h.KINDS:
            for mode in h.MODES:
                self.taken(h.GET, (kind, mode), ())
                self.taken(h.FLOAT, (kind, mode, h.FAR), ())
                self.taken(h.TO_WHOLE, (kind, mode, 48, 1), rows(kind, 1))
                for order in range(5):
                    self.taken(h.SUM, (kind, order, mode), rows(kind, 1))
                    self.taken(h.DOT, (kind, order, mode), rows(kind, 2))

    def test_texts(self):
        for kind in h.KINDS:
            self.refused(h.READ, (kind, 0), ([48] * 61,))
            self.refused(h.READ, (kind, 0), ([],), -2)
            self.refused(h.READ, (kind, 0), (list(b"-nan"),), -2)

    def test_a_refusal_changes_nothing(self):
        stirred = h.Stirred(2)
        good = [h.op_call(0, h.ADD, 0, stirred.bits(0), stirred.bits(0)), h.text_call(3, stirred.bits(3)),
                h.fn_call(2, h.LOG, 1, h.size(2, stirred.near_one(2, 5))), h.cmp_call(1, 1, stirred.bits(1), stirred.bits(1)),
                h.read_call(3, 2, "1.25e-3"), h.add_call(3, stirred.near_one(3, 4)), h.get_call(3, 0),
                h.add_call(2, stirred.near_one(2, 4), stirred.near_one(2, 4)), h.get_call(2, 2), [h.CLEAR],
                h.add_call(0, 1), h.get_call(3, 1), h.get_call(0, 0)]
        bad = [(h.call(h.OP, (0, 11, 0), rows(0, 2)), -1), (h.call(h.TEXT, (9,), ([1] * 8,)), -1), (h.read_call(0, 0, "none"), -2),
               (h.call(h.FMA, (3, 0), ([], [], [])), -1), (h.call(h.SCALE, (0, 0, -h.FAR), rows(0, 1)), -1),
               (h.call(h.CONV, (0, 4, 0), rows(0, 1)), -1), (h.call(h.FN, (0, 5, 0), rows(0, 1) + ([],)), -1),
               (h.call(h.CMP, (0, 2), rows(0, 2)), -1), (h.call(h.TAKE, (0,), rows(0, 1) + ([1],)), -1),
               (h.call(h.TAKE, (4,), rows(0, 1) + ([],)), -1), (h.call(h.TAKE, (3,), ([], [])), -1), (h.get_call(4, 0), -1),
               (h.get_call(0, 5), -1), (h.sum_call(0, 5, 0, [1, 2]), -1), (h.sum_call(3, 4, 0, [1] * 65), -1),
               (h.dot_call(2, 4, 0, [1], [1, 2]), -1), (h.whole_call(0, 0, 0, 0, 1), -1), (h.float_call(0, 9, 1), -1)]
        plain = h.split(answers(sum(good, [])))
        self.assertTrue(all(one[0] == 0 for one in plain))
        for start in range(len(bad)):
            turned = bad[start:] + bad[:start]
            mixed = h.split(answers(sum((wrong[0] + right for wrong, right in zip(turned, good)), [])))
            self.assertEqual(mixed[1::2], plain)
            self.assertEqual(mixed[::2], [[out] for call, out in turned[:len(good)]])
