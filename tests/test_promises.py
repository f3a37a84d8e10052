"""The document's promises 1, 2 and 4 said straight; the others stand with the calls that they speak of.

3: test_fused (wider and back), 4: test_cmp, too, 5: test_sums (NoOrder), 6: test_fn (Exact), 7: test_text (ReadBack),
8: test_refusals, test_accumulator (Left).
"""

import unittest
from fractions import Fraction

from bitfloats.numbers import answers

from tests import helper as h


class Rounded(unittest.TestCase):
    def test_each_number_rounded_is_itself(self):
        for kind in h.KINDS:
            stirred = h.Stirred(kind + 200)
            some = range(65536) if kind < 2 else h.edges(kind) + tuple(stirred.bits(kind) for _ in range(1000))
            some = [a for a in some if not h.is_nan(kind, a)]
            one = h.ONE[kind]
            calls = []
            for i, a in enumerate(some):
                calls.append((h.conv_call(kind, kind, i % 5, a), h.scale_call(kind, i % 5, 0, a),
                              h.op_call(kind, h.MUL, i % 5, a, one), h.op_call(kind, h.DIV, i % 5, a, one),
                              h.fma_call(kind, i % 5, a, one, h.signed(kind, h.negative(kind, a), 0)))[i // 5 % 5])
            self.assertEqual([h.bits_of(kind, given) for given in h.asked(calls)], some)

    def test_each_number_summed_alone_is_itself(self):
        for kind in h.KINDS:
            stirred = h.Stirred(kind + 210)
            some = range(65536) if kind < 2 else h.edges(kind) + tuple(stirred.bits(kind) for _ in range(2000))
            some = [a for a in some if not h.is_nan(kind, a) and not h.is_zero(kind, a)]
            given = h.asked([h.sum_call(kind, i % 5, i // 5 % 5, [a]) for i, a in enumerate(some)])
            self.assertEqual([h.bits_of(kind, one) for one in given], some)
            for start in range(0, len(some), 133):
                lot = some[start:start + 133]
                calls = [h.add_call(kind, a) + h.get_call(kind, a % 5) + [h.CLEAR] for a in lot]
                self.assertEqual([h.bits_of(kind, one) for one in h.split(answers(sum(calls, [])))[1::3]], lot)

    def test_bits_tell_numbers(self):
        """Each size is the one before and one unit of its own more: told by whole steps of the sum."""
        for kind in (0, 1):
            unit = 1
            low = range(1, 2 ** (h.FRACTION_BITS[kind] + 1))
            given = h.asked([h.op_call(kind, h.ADD, 0, a, unit) for a in low])
            self.assertEqual([h.bits_of(kind, one) for one in given], [a + 1 for a in low])

    def test_down_is_at_most_up_at_least_and_nearest_is_nearest(self):
        for kind in h.KINDS:
            stirred = h.Stirred(kind + 300)
            pairs = [(stirred.near_one(kind, 6), stirred.near_one(kind, 6)) for _ in range(150)]
            for number in (h.ADD, h.SUB, h.MUL, h.DIV):
                for a, b in pairs:
                    self.check(kind, self.exact(number, h.value(kind, a), h.value(kind, b)),
                               [h.value(kind, h.op(kind, number, mode, a, b)) for mode in h.MODES])

    def test_so_do_exact_sums(self):
        for kind in h.KINDS:
            stirred = h.Stirred(kind + 310)
            for turn in range(120):
                some = [stirred.near_one(kind, 6) for _ in range(2 + stirred.below(9))]
                others = [stirred.near_one(kind, 2) for _ in some]
                x = sum(h.value(kind, a) for a in some)
                self.check(kind, x, [h.value(kind, h.summed(kind, 4, mode, some)) for mode in h.MODES])
                x = sum(h.value(kind, a) * h.value(kind, b) for a, b in zip(some, others))
                self.check(kind, x, [h.value(kind, h.dotted(kind, 4, mode, some, others)) for mode in h.MODES])

    def test_so_do_accumulators_of_other_kinds(self):
        stirred = h.Stirred(320)
        for turn in range(120):
            terms = [(stirred.below(4),) for _ in range(1 + stirred.below(9))]
            terms = [(kind, stirred.near_one(kind, 5), stirred.near_one(kind, 3)) for kind, in terms]
            x = sum(h.value(kind, a) * h.value(kind, b) for kind, a, b in terms)
            gets = [h.get_call(kind, mode) for kind in h.KINDS for mode in h.MODES]
            given = h.split(answers(sum([h.add_call(*term) for term in terms] + gets, [])))[len(terms):]
            for kind in h.KINDS:
                self.check(kind, x, [h.value(kind, h.bits_of(kind, one)) for one in given[5 * kind:5 * kind + 5]])

    def test_so_do_whole_numbers(self):
        stirred = h.Stirred(330)
        for kind in h.KINDS:
            for turn in range(200):
                z = stirred.below(2 ** (15 if kind == 0 else 53)) * (-1) ** turn
                self.check(kind, Fraction(z), [h.value(kind, h.floated(kind, mode, z)) for mode in h.MODES])

    def exact(self, number, x, y):
        if number == h.ADD:
            return x + y
        if number == h.SUB:
            return x - y
        return x * y if number == h.MUL else x / y

    def check(self, kind, x, out):
        nearest, down, up, inward, away = out
        self.assertTrue(down <= x <= up)
        self.assertEqual(inward, down if x > 0 else up)
        self.assertEqual(abs(nearest - x), min(x - down, up - x))
        self.assertEqual(abs(away - x), min(x - down, up - x))
        if x - down == up - x:
            self.assertEqual(away, up if x > 0 else down)
        # Nothing lies between down and up.
        if down != up:
            low, high = sorted((h.neighbour_below(kind, abs(down)), h.neighbour_below(kind, abs(up))))
            self.assertEqual(high - low, 1)


class Sorted(unittest.TestCase):
    def test_the_order_that_sorts_is_one(self):
        """The numbers in the order of their bits, each two of them compared, and some NaNs behind all."""
        for kind in h.KINDS:
            stirred = h.Stirred(kind + 340)
            sizes = sorted({stirred.bits(kind) % (h.INFINITY[kind] + 1) for _ in range(30)} | {0, 1, h.INFINITY[kind]})
            some = [h.SIGN[kind] + a for a in reversed(sizes)] + sizes
            places = [(a, i) for i, a in enumerate(some)] + [(a, len(some)) for a in h.nans(kind)]
            pairs = [(one, other) for one in places for other in places]
            given = h.asked([h.cmp_call(kind, 1, one[0], other[0]) for one, other in pairs])
            for (one, other), answer in zip(pairs, given):
                self.assertEqual(answer, [0, (one[1] > other[1]) - (one[1] < other[1])], (kind, one, other))
