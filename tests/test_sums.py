"""sum and dot: the orders 0 to 4."""

import unittest
from fractions import Fraction

from tests import helper as h

ORDERS = (0, 1, 2, 3, 4)
STEPWISE = (0, 1, 2, 3)
EXACT = 4
# None, 1, 2; as many as there are lanes, one less and one more; 64 and one less.
COUNTS = (0, 1, 2, 3, 4, 5, 7, 8, 9, 16, 63, 64)


def together(kind, mode, lanes):
    """The lanes' sums, written out for each count of lanes."""
    def plus(a, b):
        return h.wanted_sum(kind, mode, a, b)

    if len(lanes) == 1:
        return lanes[0]
    if len(lanes) == 2:
        return plus(lanes[0], lanes[1])
    if len(lanes) == 4:
        return plus(plus(lanes[0], lanes[2]), plus(lanes[1], lanes[3]))
    return plus(plus(plus(lanes[0], lanes[4]), plus(lanes[2], lanes[6])),
                plus(plus(lanes[1], lanes[5]), plus(lanes[3], lanes[7])))


def wanted_lanes(kind, order, mode, terms, step):
    lanes = []
    for i in range(2 ** order):
        s = 0
        for term in terms[i::2 ** order]:
            s = step(s, term)
        lanes.append(s)
    return together(kind, mode, lanes)


def wanted_numbers(kind, order, mode, some):
    if order == EXACT:
        return h.wanted_exact(kind, mode, [(kind, a) for a in some])
    return wanted_lanes(kind, order, mode, some, lambda s, a: h.wanted_sum(kind, mode, s, a))


def wanted_products(kind, order, mode, some, others):
    if order == EXACT:
        return h.wanted_exact(kind, mode, [(kind, a, b) for a, b in zip(some, others)])
    return wanted_lanes(kind, order, mode, list(zip(some, others)),
                        lambda s, pair: h.wanted_fused(kind, mode, pair[0], pair[1], s))


def number(kind, x):
    """The bits of a Fraction or whole number that the format has."""
    bits = h.round_to(kind, 0, Fraction(x))
    assert h.value(kind, bits) == x
    return bits


def numbers(kind, some):
    return [number(kind, x) for x in some]


def finite_bits(kind, stirred):
    bits = stirred.bits(kind)
    return bits if h.is_finite(kind, bits) else h.signed(kind, h.negative(kind, bits), bits % 1000)


class Orders(unittest.TestCase):
    def check_sums(self, cases):
        for case, answer in zip(cases, h.asked([h.sum_call(*case) for case in cases])):
            self.assertEqual(hex(h.bits_of(case[0], answer)), hex(wanted_numbers(*case)), case)

    def check_dots(self, cases):
        for case, answer in zip(cases, h.asked([h.dot_call(*case) for case in cases])):
            self.assertEqual(hex(h.bits_of(case[0], answer)), hex(wanted_products(*case)), case)

    def both(self, kind, draw):
        """Rows of all counts, in each order and mode, of numbers that are drawn anew each time."""
        sums = []
        dots = []
        for order in ORDERS:
            for mode in h.MODES:
                for count in COUNTS:
                    sums.append((kind, order, mode, [draw() for _ in range(count)]))
                    dots.append((kind, order, mode, [draw() for _ in range(count)], [draw() for _ in range(count)]))
        self.check_sums(sums)
        self.check_dots(dots)

    def test_numbers_near_one(self):
        for kind in h.KINDS:
            stirred = h.Stirred(kind + 500)
            self.both(kind, lambda: stirred.near_one(kind, 4))

    def test_numbers_of_one_sign(self):
        for kind in h.KINDS:
            stirred = h.Stirred(kind + 510)
            minus = h.SIGN[kind] * (kind % 2)
            self.both(kind, lambda: h.size(kind, stirred.near_one(kind, 2)) + minus)

    def test_numbers_of_all_sizes(self):
        for kind in h.KINDS:
            stirred = h.Stirred(kind + 520)
            self.both(kind, lambda: finite_bits(kind, stirred))

    def test_subnormal_numbers(self):
        for kind in h.KINDS:
            stirred = h.Stirred(kind + 530)
            self.both(kind, lambda: stirred.below(2) * h.SIGN[kind] + stirred.below(2 ** (h.FRACTION_BITS[kind] + 1)))

    def test_nothings(self):
        for kind in h.KINDS:
            stirred = h.Stirred(kind + 540)
            self.both(kind, lambda: stirred.below(2) * h.SIGN[kind])
            self.both(kind, lambda: h.SIGN[kind])

    def test_edges(self):
        for kind in h.KINDS:
            stirred = h.Stirred(kind + 550)
            some = h.edges(kind) + h.nans(kind)[:2]
            sums = []
            dots = []
            for a in some:
                for _ in range(25):
                    order, mode, count = stirred.below(5), stirred.below(5), stirred.below(4)
                    row = [a] + [some[stirred.below(len(some))] for _ in range(count)]
                    sums.append((kind, order, mode, row))
                    dots.append((kind, order, mode, row, [some[stirred.below(len(some))] for _ in row]))
            self.check_sums(sums)
            self.check_dots(dots)

    def test_sums_that_cancel(self):
        for kind in h.KINDS:
            stirred = h.Stirred(kind + 560)
            sums = []
            dots = []
            for order in ORDERS:
                for mode in h.MODES:
                    half = [finite_bits(kind, stirred) for _ in range(1 + stirred.below(12))]
                    turned = [a ^ h.SIGN[kind] for a in reversed(half)]
                    others = [stirred.near_one(kind, 2) for _ in half]
                    sums.append((kind, order, mode, half + turned))
                    dots.append((kind, order, mode, half + turned, others + others[::-1]))
            self.check_sums(sums)
            self.check_dots(dots)


class InWords(unittest.TestCase):
    def sums(self, kind, order, some):
        return [h.summed(kind, order, mode, some) for mode in h.MODES]

    def test_of_none(self):
        for kind in h.KINDS:
            s = h.SIGN[kind]
            for order in STEPWISE:
                self.assertEqual(self.sums(kind, order, []), [0, 0, 0, 0, 0])
                self.assertEqual([h.dotted(kind, order, mode, [], []) for mode in h.MODES], [0, 0, 0, 0, 0])
            self.assertEqual(self.sums(kind, EXACT, []), [0, s, 0, 0, 0])
            self.assertEqual([h.dotted(kind, EXACT, mode, [], []) for mode in h.MODES], [0, s, 0, 0, 0])

    def test_order_0_begins_with_plus_0(self):
        for kind in h.KINDS:
            s, one = h.SIGN[kind], h.ONE[kind]
            for order in ORDERS:
                for count in (1, 2, 3, 8, 64):
                    # +0 and -0 come to +0, in mode 1 to -0; then -0 and -0 stay -0.
                    self.assertEqual(self.sums(kind, order, [s] * count), [0, s, 0, 0, 0])
                    for a, b in ((s, one), (0, s + one), (s, 0), (0, s)):
                        given = [h.dotted(kind, order, mode, [a] * count, [b] * count) for mode in h.MODES]
                        self.assertEqual(given, [0, s, 0, 0, 0])
            for order in STEPWISE:
                self.assertEqual(self.sums(kind, order, [0]), [0] * 5)
                self.assertEqual([h.dotted(kind, order, mode, [s], [s + one]) for mode in h.MODES], [0] * 5)
            # The exact sum is 0 and knows of no sign that came.
            self.assertEqual(self.sums(kind, EXACT, [0]), [0, s, 0, 0, 0])

    def test_lanes_that_take_no_number(self):
        for kind in h.KINDS:
            for order in ORDERS:
                for a in h.edges(kind):
                    if not h.is_zero(kind, a):
                        for mode in h.MODES:
                            self.assertEqual(h.summed(kind, order, mode, [a]), a)
                            self.assertEqual(h.dotted(kind, order, mode, [a], [h.ONE[kind]]), a)

    def test_which_lane_takes_which_number(self):
        """A great number and its negative meet in one lane, or they don't: what's small between them shows it."""
        for kind in h.KINDS:
            great = 2 ** (h.FRACTION_BITS[kind] + 3)
            for order in STEPWISE:
                lanes = 2 ** order
                # In one lane, with the 1s in the others.
                row = [great] + [1] * (lanes - 1) + [-great] + [1] * (lanes - 1)
                self.assertEqual(h.summed(kind, order, 0, numbers(kind, row)), number(kind, 2 * lanes - 2))
                # The 1s in the great number's lane are lost.
                row = [great] + [0] * (lanes - 1) + [1] + [0] * (lanes - 1) + [-great] + [0] * (lanes - 1)
                self.assertEqual(h.summed(kind, order, 0, numbers(kind, row)), 0)
                self.assertEqual(h.summed(kind, EXACT, 0, numbers(kind, row)), h.ONE[kind])

    def test_from_the_left(self):
        for kind in h.KINDS:
            great = 2 ** (h.FRACTION_BITS[kind] + 3)
            self.assertEqual(h.summed(kind, 0, 0, numbers(kind, [great, -great, 1])), h.ONE[kind])
            self.assertEqual(h.summed(kind, 0, 0, numbers(kind, [1, great, -great])), 0)
            for order, lanes in ((1, 2), (2, 4), (3, 8)):
                for row, out in (([great, -great, 1], h.ONE[kind]), ([1, great, -great], 0)):
                    spread = []
                    for x in row:
                        spread += [x] + [0] * (lanes - 1)
                    self.assertEqual(h.summed(kind, order, 0, numbers(kind, spread)), out)

    def test_how_lanes_are_put_together(self):
        rows = (
            (1, ("g", 1), "g"), (2, ("g", 1, "-g", 1), 2), (2, ("g", "-g", 1, 1), 0), (2, (1, 1, "g", "-g"), 0),
            (2, (1, "g", 1, "-g"), 2), (3, ("g", 1, 1, 1, "-g", 1, 1, 1), 6), (3, ("g", 1, "-g", 1, 0, 0, 0, 0), 2),
            (3, ("g", 1, 0, 0, 0, 1, "-g", 0), 2), (3, ("g", 1, 0, 0, 1, 0, "-g", 0), 1),
            (3, ("g", "-g", 0, 0, 1, 1, 0, 0), 0), (3, (1, 0, "g", 0, 0, 1, "-g", 1), 3),
        )
        for kind in h.KINDS:
            great = 2 ** (h.FRACTION_BITS[kind] + 3)
            named = {"g": great, "-g": -great}
            for order, row, out in rows:
                given = h.summed(kind, order, 0, numbers(kind, [named.get(x, x) for x in row]))
                self.assertEqual(given, number(kind, named.get(out, out)), (kind, order, row))

    def test_the_orders_differ(self):
        """What stands in a lane with the great numbers, before both have come, is lost there."""
        for kind in h.KINDS:
            great = 2 ** (h.FRACTION_BITS[kind] + 3)
            row = numbers(kind, [1, 0, 1, 1, great, 1, 1, 0, -great, 1, 1, 1, 1])
            given = [h.summed(kind, order, 0, row) for order in ORDERS]
            self.assertEqual(given, numbers(kind, [4, 6, 8, 7, 9]))
            given = [h.dotted(kind, order, 0, row, [h.ONE[kind]] * len(row)) for order in ORDERS]
            self.assertEqual(given, numbers(kind, [4, 6, 8, 7, 9]))

    def test_products_by_fused(self):
        # Halves: (1 + 2^-10)^2 less 1 + 2^-9 leaves 2^-20, which a rounded product would have lost.
        for order, places in ((0, 1), (1, 2), (2, 4), (3, 8), (4, 1)):
            some = [0xBC02] + [0] * (places - 1) + [0x3C01]
            others = [0x3C00] + [0] * (places - 1) + [0x3C01]
            self.assertEqual(h.dotted(0, order, 0, some, others), 0x0010)
        # Put together, lanes are rounded: by 2 lanes the product is one lane's, 3C02, and nothing is left.
        self.assertEqual(h.dotted(0, 1, 0, [0xBC02, 0x3C01], [0x3C00, 0x3C01]), 0)
        for kind in h.KINDS:
            f = h.FRACTION_BITS[kind]
            some = [h.SIGN[kind] + h.ONE[kind] + 2, h.ONE[kind] + 1]
            others = [h.ONE[kind], h.ONE[kind] + 1]
            self.assertEqual(h.dotted(kind, 0, 0, some, others), number(kind, h.two_to(-2 * f)))
            # The product of the greatest with itself is too great for any step, but not for the exact sum.
            most = h.INFINITY[kind] - 1
            some = [most, h.SIGN[kind] + most, h.ONE[kind]]
            self.assertEqual(h.dotted(kind, EXACT, 0, some, [most, most, h.ONE[kind]]), h.ONE[kind])
            self.assertEqual(h.dotted(kind, 0, 0, some, [most, most, h.ONE[kind]]), h.INFINITY[kind])

    def test_nans_and_infinities(self):
        for kind in h.KINDS:
            s, one, inf, nan = h.SIGN[kind], h.ONE[kind], h.INFINITY[kind], h.NAN[kind]
            rows = [([inf], inf), ([s + inf], s + inf), ([inf, inf, one], inf), ([one, s + inf, s + inf], s + inf),
                    ([inf, s + inf], nan), ([s + inf, one, inf], nan), ([inf, one, one, s + inf, one], nan),
                    ([one] * 63 + [s + inf], s + inf), ([s + inf] + [one] * 63, s + inf)]
            for some in h.nans(kind):
                rows += [([some], nan), ([one, some], nan), ([some, inf], nan), ([0] * 63 + [some], nan), ([some] * 3, nan)]
            for order in ORDERS:
                for mode in h.MODES:
                    for row, out in rows:
                        self.assertEqual(h.summed(kind, order, mode, row), out, (kind, order, mode, row))
                        self.assertEqual(h.dotted(kind, order, mode, row, [one] * len(row)), out, (kind, order, mode, row))

    def test_infinity_times_nothing(self):
        for kind in h.KINDS:
            s, one, inf, nan = h.SIGN[kind], h.ONE[kind], h.INFINITY[kind], h.NAN[kind]
            rows = (
                ([inf], [0], nan), ([s], [inf], nan), ([s + inf, one], [s, one], nan), ([one, inf], [one, 0], nan),
                ([inf, inf], [one, 0], nan), ([0, one], [s + inf, h.INFINITY[kind]], nan), ([inf], [inf], inf),
                ([inf], [s + inf], s + inf), ([s + inf, one], [s + one, one], inf), ([inf, inf], [one, s + one], nan),
                ([inf, s + inf], [one, s + 1], inf), ([nan, inf], [0, one], nan), ([inf - 1], [s + inf], s + inf),
            )
            for order in ORDERS:
                for mode in h.MODES:
                    for some, others, out in rows:
                        self.assertEqual(h.dotted(kind, order, mode, some, others), out, (kind, order, mode, some, others))


class Exactly(unittest.TestCase):
    def modes(self, kind, some):
        return [h.summed(kind, EXACT, mode, some) for mode in h.MODES]

    def test_to_nothing(self):
        for kind in h.KINDS:
            s = h.SIGN[kind]
            most = h.INFINITY[kind] - 1
            for some in ([h.ONE[kind], s + h.ONE[kind]], [most, 1, s + 1, s + most], [s, s], [0, s], [1, 1, s + 2]):
                self.assertEqual(self.modes(kind, some), [0, s, 0, 0, 0])

    def test_what_cancels(self):
        for kind in h.KINDS:
            s = h.SIGN[kind]
            most = h.INFINITY[kind] - 1
            self.assertEqual(self.modes(kind, [most, most, 1, s + most, s + most]), [1] * 5)
            self.assertEqual(self.modes(kind, [s + most, s + 1, most]), [s + 1] * 5)
            self.assertEqual(self.modes(kind, [most] * 32 + [s + most] * 31), [most] * 5)

    def test_what_overflows(self):
        for kind in h.KINDS:
            s, inf = h.SIGN[kind], h.INFINITY[kind]
            most = inf - 1
            self.assertEqual(self.modes(kind, [most, most]), [inf, most, inf, most, inf])
            self.assertEqual(self.modes(kind, [s + most] * 64), [s + inf, s + inf, s + most, s + most, s + inf])
            # Half a unit above the greatest is the first that goes to infinity to nearest.
            half = number(kind, h.size_value(kind, inf) - h.size_value(kind, most)) - 2 ** h.FRACTION_BITS[kind]
            self.assertEqual(self.modes(kind, [most, half]), [inf, most, inf, most, inf])
            self.assertEqual(self.modes(kind, [most, half, s + 1]), [most, most, inf, most, most])
            self.assertEqual(self.modes(kind, [s + most, s + half, 1]), [s + most, s + inf, s + most, s + most, s + most])

    def test_half_way_between_two_numbers(self):
        for kind in h.KINDS:
            s, one, f = h.SIGN[kind], h.ONE[kind], h.FRACTION_BITS[kind]
            half = one - ((f + 1) << f)
            self.assertEqual(self.modes(kind, [one, half]), [one, one, one + 1, one, one + 1])
            self.assertEqual(self.modes(kind, [one + 1, half]), [one + 2, one + 1, one + 2, one + 1, one + 2])
            self.assertEqual(self.modes(kind, [s + one, s + half]), [s + one, s + one + 1, s + one, s + one, s + one + 1])
            # The least number beside it, far below all that a step would keep, settles it.
            self.assertEqual(self.modes(kind, [one, half, 1]), [one + 1, one, one + 1, one, one + 1])
            self.assertEqual(self.modes(kind, [one + 1, half, s + 1]), [one + 1, one + 1, one + 2, one + 1, one + 1])
            self.assertEqual(self.modes(kind, [1, one, s + 1, half]), [one, one, one + 1, one, one + 1])

    def test_products_below_the_least_number(self):
        for kind in h.KINDS:
            s = h.SIGN[kind]
            quarter = h.ONE[kind] - (2 << h.FRACTION_BITS[kind])
            for count, out in ((1, [0, 0, 1, 0, 0]), (2, [0, 0, 1, 0, 1]), (3, [1, 0, 1, 0, 1]), (4, [1] * 5),
                               (6, [2, 1, 2, 1, 2]), (10, [2, 2, 3, 2, 3])):
                given = [h.dotted(kind, EXACT, mode, [1] * count, [quarter] * count) for mode in h.MODES]
                self.assertEqual(given, out)
                given = [h.dotted(kind, EXACT, mode, [s + 1] * count, [quarter] * count) for mode in h.MODES]
                self.assertEqual(given, [s + out[0], s + out[2], s + out[1], s + out[3], s + out[4]])
            # The least times the least keeps its sign where it rounds to 0.
            self.assertEqual([h.dotted(kind, EXACT, mode, [1], [s + 1]) for mode in h.MODES], [s, s + 1, s, s, s])


class NoOrder(unittest.TestCase):
    """Exact sums have no order."""

    def shuffled(self, stirred, some):
        left = list(some)
        out = []
        while left:
            out.append(left.pop(stirred.below(len(left))))
        return out

    def drawn(self, kind, stirred, turn):
        if turn % 8 == 7:
            return (h.edges(kind) + h.nans(kind))[stirred.below(len(h.edges(kind)) + 2)]
        return finite_bits(kind, stirred) if turn % 2 else stirred.near_one(kind, 9)

    def test_sums(self):
        for kind in h.KINDS:
            stirred = h.Stirred(kind + 600)
            for turn in range(40):
                some = [self.drawn(kind, stirred, turn) for _ in range(2 + stirred.below(63))]
                mode = turn % 5
                out = h.summed(kind, EXACT, mode, some)
                self.assertEqual(out, wanted_numbers(kind, EXACT, mode, some))
                for other in (some[::-1], sorted(some), self.shuffled(stirred, some), self.shuffled(stirred, some)):
                    self.assertEqual(h.summed(kind, EXACT, mode, other), out)
                    calls = [h.add_call(kind, a) for a in other] + [h.get_call(kind, mode)]
                    self.assertEqual(h.bits_of(kind, h.asked(calls)[-1]), out)

    def test_dots(self):
        for kind in h.KINDS:
            stirred = h.Stirred(kind + 610)
            for turn in range(40):
                pairs = [(self.drawn(kind, stirred, turn), stirred.near_one(kind, 3)) for _ in range(2 + stirred.below(63))]
                mode = turn % 5
                out = wanted_products(kind, EXACT, mode, *zip(*pairs))
                for other in (pairs, pairs[::-1], sorted(pairs), self.shuffled(stirred, pairs)):
                    self.assertEqual(h.dotted(kind, EXACT, mode, *zip(*other)), out)
                    self.assertEqual(h.dotted(kind, EXACT, mode, *reversed(list(zip(*other)))), out)
                    calls = [h.add_call(kind, a, b) for a, b in other] + [h.get_call(kind, mode)]
                    self.assertEqual(h.bits_of(kind, h.asked(calls)[-1]), out)
