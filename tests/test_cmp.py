"""cmp: the plain comparison and the order that sorts."""

import functools
import unittest

from tests import helper as h


def sign(z):
    return (z > 0) - (z < 0)


def key(kind, a):
    """A number's place: infinities by their stand-in, NaNs behind all, -0 before +0."""
    if h.is_nan(kind, a):
        return (1, 0, 0)
    return (0, h.value(kind, a), 0 if h.negative(kind, a) else 1)


def wanted(kind, how, a, b):
    if how == 1:
        return (key(kind, a) > key(kind, b)) - (key(kind, a) < key(kind, b))
    if h.is_nan(kind, a) or h.is_nan(kind, b):
        return 2
    return sign(h.value(kind, a) - h.value(kind, b))


class Compared(unittest.TestCase):
    def test_edges(self):
        for kind in h.KINDS:
            some = h.edges(kind) + h.nans(kind)
            cases = [(kind, how, a, b) for how in (0, 1) for a in some for b in some]
            for case, answer in zip(cases, h.asked([h.cmp_call(*case) for case in cases])):
                self.assertEqual(answer, [0, wanted(*case)], case)

    def test_stirred_numbers(self):
        stirred = h.Stirred(3)
        for kind in h.KINDS:
            cases = [(kind, i % 2, stirred.bits(kind), stirred.bits(kind)) for i in range(400)]
            for case, answer in zip(cases, h.asked([h.cmp_call(*case) for case in cases])):
                self.assertEqual(answer, [0, wanted(*case)], case)

    def test_in_words(self):
        for kind in h.KINDS:
            s, one, inf, nan = h.SIGN[kind], h.ONE[kind], h.INFINITY[kind], h.NAN[kind]
            rows = (
                (0, s, 0, 1), (s, 0, 0, -1), (s, s, 0, 0), (0, 0, 0, 0), (one, s + one, 1, 1), (s + one, s, -1, -1),
                (s + inf, inf, -1, -1), (inf, inf, 0, 0), (nan, inf, 2, 1), (inf, nan, 2, -1), (nan, nan, 2, 0),
                (inf + 1, nan, 2, 0), (s + inf + 1, s + inf, 2, 1), (0, s + inf + 1, 2, -1), (s, 1, -1, -1),
            )
            for a, b, plain, sorts in rows:
                self.assertEqual(h.ask(h.cmp_call(kind, 0, a, b)), [0, plain])
                self.assertEqual(h.ask(h.cmp_call(kind, 1, a, b)), [0, sorts])

    def test_answers_are_whole_numbers(self):
        for kind in h.KINDS:
            for how in (0, 1):
                for a in h.edges(kind)[:4]:
                    self.assertTrue(all(type(one) is int for one in h.ask(h.cmp_call(kind, how, a, 1))))


class TheOrderThatSorts(unittest.TestCase):
    """It is one: of two just one way, and what is below what is below is below."""

    def test_two_and_three(self):
        for kind in h.KINDS:
            some = sorted(set(h.edges(kind)[::2] + h.edges(kind)[1::4] + (0, h.SIGN[kind]) + h.nans(kind)[:3]))
            cases = [h.cmp_call(kind, 1, a, b) for a in some for b in some]
            given = iter(h.asked(cases))
            order = {(a, b): next(given)[1] for a in some for b in some}
            for a in some:
                self.assertEqual(order[a, a], 0)
                for b in some:
                    self.assertEqual(order[a, b], -order[b, a])
                    if order[a, b] == 0:
                        self.assertTrue(a == b or (h.is_nan(kind, a) and h.is_nan(kind, b)))
                    for c in some:
                        if order[a, b] <= 0 and order[b, c] <= 0:
                            self.assertLessEqual(order[a, c], 0)

    def test_sorted(self):
        for kind in h.KINDS:
            some = h.edges(kind) + h.nans(kind)
            order = functools.cmp_to_key(lambda a, b: h.ask(h.cmp_call(kind, 1, a, b))[1])
            out = sorted(some, key=order)
            s, inf = h.SIGN[kind], h.INFINITY[kind]
            self.assertEqual(out[0], s + inf)
            self.assertEqual(out[len(out) - len(h.nans(kind)) - 1], inf)
            self.assertEqual(out.index(s) + 1, out.index(0))
            self.assertEqual(sorted(out[-6:]), sorted(h.nans(kind)))
