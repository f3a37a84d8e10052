"""The document's promises 1 and 2 said straight; 3, 4, 6, 7, 8 stand with the calls that they speak of.

3: test_fused (wider and back), 4: test_cmp, 6: test_fn (Exact), 7: test_text (ReadBack), 8: test_refusals.
"""

import unittest

from tests import helper as h


class Rounded(unittest.TestCase):
    def test_each_number_rounded_is_itself(self):
        for kind in h.KINDS:
            stirred = h.Stirred(kind + 200)
            some = range(65536) if kind < 2 else h.edges(kind) + tuple(stirred.bits(kind) for _ in range(1000))
            some = [a for a in some if not h.is_nan(kind, a)]
            one = h.ONE[kind]
            calls = []
            for i, a in enumerate(some):
                calls.append((h.conv_call(kind, kind, i % 5, a), h.scale_call(kind, i % 5, 0, a),
                              h.op_call(kind, h.MUL, i % 5, a, one), h.op_call(kind, h.DIV, i % 5, a, one),
                              h.fma_call(kind, i % 5, a, one, h.signed(kind, h.negative(kind, a), 0)))[i // 5 % 5])
            self.assertEqual([h.bits_of(kind, given) for given in h.asked(calls)], some)

    def test_bits_tell_numbers(self):
        """Each size is the one before and one unit of its own more: told by whole steps of the sum."""
        for kind in (0, 1):
            unit = 1
            low = range(1, 2 ** (h.FRACTION_BITS[kind] + 1))
            given = h.asked([h.op_call(kind, h.ADD, 0, a, unit) for a in low])
            self.assertEqual([h.bits_of(kind, one) for one in given], [a + 1 for a in low])

    def test_down_is_at_most_up_at_least_and_nearest_is_nearest(self):
        for kind in h.KINDS:
            stirred = h.Stirred(kind + 300)
            pairs = [(stirred.near_one(kind, 6), stirred.near_one(kind, 6)) for _ in range(150)]
            for number in (h.ADD, h.SUB, h.MUL, h.DIV):
                for a, b in pairs:
                    self.check(kind, self.exact(number, h.value(kind, a), h.value(kind, b)),
                               [h.value(kind, h.op(kind, number, mode, a, b)) for mode in h.MODES])

    def exact(self, number, x, y):
        if number == h.ADD:
            return x + y
        if number == h.SUB:
            return x - y
        return x * y if number == h.MUL else x / y

    def check(self, kind, x, out):
        nearest, down, up, inward, away = out
        self.assertTrue(down <= x <= up)
        self.assertEqual(inward, down if x > 0 else up)
        self.assertEqual(abs(nearest - x), min(x - down, up - x))
        self.assertEqual(abs(away - x), min(x - down, up - x))
        if x - down == up - x:
            self.assertEqual(away, up if x > 0 else down)
        # Nothing lies between down and up.
        if down != up:
            low, high = sorted((h.neighbour_below(kind, abs(down)), h.neighbour_below(kind, abs(up))))
            self.assertEqual(high - low, 1)
