"""clear, add and get: one exact sum, kept from call to call within a list."""

import unittest

from bitfloats.numbers import answers
from tests import helper as h

CLEAR = [h.CLEAR]


def bits_got(kind, calls):
    """What is got at the end of a list."""
    return h.bits_of(kind, h.split(answers(sum(calls, [])))[-1])


def in_each(calls):
    """What is got in each kind and mode behind the calls, all in one list: get changes nothing."""
    gets = [(kind, mode) for kind in h.KINDS for mode in h.MODES]
    given = h.split(answers(sum(calls, []) + sum((h.get_call(*one) for one in gets), [])))
    return {one: h.bits_of(one[0], answer) for one, answer in zip(gets, given[len(calls):])}


def wanted_in_each(terms):
    return {(kind, mode): h.wanted_exact(kind, mode, terms) for kind in h.KINDS for mode in h.MODES}


def added(terms):
    return [h.add_call(*term) for term in terms]


def some_terms(stirred, count, special=0):
    """Numbers and products of different kinds; special of a hundred numbers are at an edge, or NaNs."""
    def drawn(kind):
        if stirred.below(100) < special:
            some = h.edges(kind) + h.nans(kind)[:1]
            return some[stirred.below(len(some))]
        bits = stirred.bits(kind) if stirred.below(2) else stirred.near_one(kind, 9)
        return bits if h.is_finite(kind, bits) else bits % 1000

    out = []
    for _ in range(count):
        kind = stirred.below(4)
        out.append((kind,) + tuple(drawn(kind) for _ in range(1 + stirred.below(2))))
    return out


class AddAndGet(unittest.TestCase):
    def test_the_form(self):
        one = [9, 0, 2, 0, 60, 0]
        product = [9, 0, 2, 0, 64, 2, 0, 64]
        self.assertEqual(answers(one + product + [10, 0, 0] + [8] + [10, 0, 0] + [10, 0, 1]),
                         [1, 0, 1, 0, 4, 0, 2, 0, 69, 1, 0, 4, 0, 2, 0, 0, 4, 0, 2, 0, 128])

    def test_empty(self):
        for calls in ([], [CLEAR], added([(3, h.ONE[3])]) + [CLEAR], [CLEAR, CLEAR]):
            for (kind, mode), bits in in_each(calls).items():
                self.assertEqual(bits, h.SIGN[kind] if mode == 1 else 0)

    def test_one_number(self):
        for kind in h.KINDS:
            for a in h.edges(kind) + h.nans(kind):
                self.assertEqual(in_each(added([(kind, a)])), wanted_in_each([(kind, a)]), (kind, a))

    def test_one_product(self):
        for kind in h.KINDS:
            stirred = h.Stirred(kind + 700)
            some = h.edges(kind) + h.nans(kind)[:1]
            for a in some:
                b = some[stirred.below(len(some))]
                self.assertEqual(in_each(added([(kind, a, b)])), wanted_in_each([(kind, a, b)]), (kind, a, b))

    def test_different_kinds_one_after_another(self):
        stirred = h.Stirred(710)
        for turn in range(60):
            terms = some_terms(stirred, 1 + stirred.below(12))
            self.assertEqual(in_each(added(terms)), wanted_in_each(terms), terms)

    def test_different_kinds_with_edges(self):
        stirred = h.Stirred(711)
        for turn in range(60):
            terms = some_terms(stirred, 1 + stirred.below(6), 30)
            self.assertEqual(in_each(added(terms)), wanted_in_each(terms), terms)

    def test_what_each_add_does(self):
        """Got behind each add, in a kind and mode of its own, and once more at once."""
        stirred = h.Stirred(712)
        for turn in range(10):
            terms = some_terms(stirred, 90, turn)
            gets = [(stirred.below(4), stirred.below(5)) for _ in terms]
            calls = []
            for term, one in zip(terms, gets):
                calls += h.add_call(*term) + h.get_call(*one) + h.get_call(*one)
            given = h.split(answers(calls))
            for i, one in enumerate(gets):
                self.assertEqual(given[3 * i], [0])
                self.assertEqual(given[3 * i + 1], given[3 * i + 2])
                self.assertEqual(h.bits_of(one[0], given[3 * i + 1]), h.wanted_exact(one[0], one[1], terms[:i + 1]))

    def test_nothing_is_lost(self):
        """From the least product of doubles to the greatest, and back."""
        most, s = h.INFINITY[3] - 1, h.SIGN[3]
        terms = [(3, most, most), (3, 1, 1), (3, h.ONE[3]), (0, 1), (2, 1), (1, 0x7F7F)]
        self.assertEqual(in_each(added(terms)), wanted_in_each(terms))
        turned = [(kind, some[0] ^ h.SIGN[kind]) + tuple(some[1:]) for kind, *some in terms]
        for i in range(len(terms)):
            left = terms + turned[:i] + turned[i + 1:]
            self.assertEqual(in_each(added(left)), wanted_in_each([terms[i]]))
        self.assertEqual(in_each(added(terms + turned)), in_each([]))
        # The least product settles on which side of half way the sum lies.
        half = h.ONE[3] - (53 << 52)
        one = h.ONE[3]
        base = [(3, one), (3, half)]
        self.assertEqual([bits_got(3, added(base) + [h.get_call(3, mode)]) for mode in h.MODES],
                         [one, one, one + 1, one, one + 1])
        self.assertEqual([bits_got(3, added(base + [(3, 1, 1)]) + [h.get_call(3, mode)]) for mode in h.MODES],
                         [one + 1, one, one + 1, one, one + 1])
        self.assertEqual([bits_got(3, added(base + [(3, 1, s + 1)]) + [h.get_call(3, mode)]) for mode in h.MODES],
                         [one, one, one + 1, one, one])

    def test_what_is_too_great_for_one_kind(self):
        calls = added([(3, h.INFINITY[3] - 1)])
        for (kind, mode), bits in in_each(calls).items():
            most = h.INFINITY[kind] - 1
            self.assertEqual(bits, most if kind == 3 or mode in (1, 3) else h.INFINITY[kind])

    def test_nans_and_infinities(self):
        for kind in h.KINDS:
            s, one, inf = h.SIGN[kind], h.ONE[kind], h.INFINITY[kind]
            rows = (
                ([(kind, inf)], "inf"), ([(kind, s + inf)], "-inf"), ([(kind, inf), (kind, inf), (kind, s + one)], "inf"),
                ([(kind, inf), (3 - kind, h.SIGN[3 - kind] + h.INFINITY[3 - kind])], "nan"),
                ([(kind, s + inf), (kind, one), (kind, one, inf)], "nan"), ([(kind, inf, s + inf)], "-inf"),
                ([(kind, inf, 0)], "nan"), ([(kind, s, inf), (kind, one)], "nan"), ([(kind, inf), (kind, inf, s)], "nan"),
                ([(kind, one), (kind, inf + 1)], "nan"), ([(kind, inf), (kind, h.NAN[kind])], "nan"),
                ([(kind, inf + 1, 0)], "nan"), ([(kind, 0, s + inf + 1), (kind, inf)], "nan"),
                ([(kind, s + inf, s + 1), (kind, s + inf - 1)], "inf"),
            )
            for terms, out in rows:
                for order in (terms, terms[::-1]):
                    for (to, mode), bits in in_each(added(order)).items():
                        wanted = {"inf": h.INFINITY[to], "-inf": h.SIGN[to] + h.INFINITY[to], "nan": h.NAN[to]}[out]
                        self.assertEqual(bits, wanted, (order, to, mode))

    def test_they_stay(self):
        """Behind a NaN, or infinities, no number changes what's got, but for the other infinity."""
        for kind in h.KINDS:
            s, inf, one = h.SIGN[kind], h.INFINITY[kind], h.ONE[kind]
            later = [(kind, one), (kind, s + one), (kind, inf - 1, inf - 1), (3, h.SIGN[3] + 1)]
            for first, out in (([(kind, inf)], inf), ([(kind, s + inf)], s + inf), ([(kind, inf), (kind, s + inf)], h.NAN[kind]),
                               ([(kind, inf, 0)], h.NAN[kind]), ([(kind, inf + 1)], h.NAN[kind])):
                for mode in h.MODES:
                    self.assertEqual(bits_got(kind, added(first + later) + [h.get_call(kind, mode)]), out)
            nan = [(kind, inf + 1), (kind, inf), (kind, inf), (kind, s + inf)]
            self.assertEqual(bits_got(kind, added(nan) + [h.get_call(kind, 0)]), h.NAN[kind])

    def test_four_hundred_calls(self):
        stirred = h.Stirred(713)
        terms = some_terms(stirred, 399)
        for kind in h.KINDS:
            self.assertEqual(bits_got(kind, added(terms) + [h.get_call(kind, 2)]), h.wanted_exact(kind, 2, terms))


class Cleared(unittest.TestCase):
    def test_behind_numbers_nans_and_infinities(self):
        for kind in h.KINDS:
            s, one, inf = h.SIGN[kind], h.ONE[kind], h.INFINITY[kind]
            for before in ([(kind, one)], [(kind, inf + 1)], [(kind, inf)], [(kind, s + inf)], [(kind, inf), (kind, s + inf)],
                           [(kind, inf, 0)], [(3, 1, 1), (3, h.INFINITY[3] - 1, h.INFINITY[3] - 1)], []):
                self.assertEqual(in_each(added(before) + [CLEAR]), in_each([]))
                for later in ([(kind, one)], [(kind, s + inf)], [(kind, 1, one), (kind, 1)]):
                    self.assertEqual(in_each(added(before) + [CLEAR] + added(later)), wanted_in_each(later))

    def test_again_and_again(self):
        stirred = h.Stirred(720)
        terms = []
        calls = []
        wanted = []
        for turn in range(130):
            if stirred.below(4) == 0:
                calls.append(CLEAR)
                wanted.append([0])
                terms = []
            else:
                terms = terms + some_terms(stirred, 1, 20)
                calls.append(h.add_call(*terms[-1]))
                wanted.append([0])
            kind, mode = stirred.below(4), stirred.below(5)
            calls.append(h.get_call(kind, mode))
            wanted.append([0] + h.counted(h.row(kind, h.wanted_exact(kind, mode, terms))))
        self.assertEqual(h.split(answers(sum(calls, []))), wanted)


class Left(unittest.TestCase):
    """What leaves the accumulator as it is."""

    def check(self, calls):
        """The calls between an add and the gets change none of these."""
        for terms in ([], [(2, h.ONE[2] + 7), (3, 1, 1)], [(0, 0xFC00)], [(1, 0x7FFF)]):
            self.assertEqual(in_each(added(terms) + calls), wanted_in_each(terms))

    def test_refused_adds(self):
        refused = []
        for kind in h.KINDS:
            right = h.row(kind, h.ONE[kind])
            for count in range(9):
                wrong = [1] * count
                if count != h.BYTES[kind]:
                    refused.append(h.call(h.TAKE, (kind,), (wrong, [])))
                    refused.append(h.call(h.TAKE, (kind,), (wrong, right)))
                    refused.append(h.call(h.TAKE, (kind,), (wrong, wrong)))
                    if count:
                        refused.append(h.call(h.TAKE, (kind,), (right, wrong)))
                        refused.append(h.call(h.TAKE, (kind,), (h.row(kind, h.NAN[kind]), wrong)))
        for kind in (4, 5, 2 ** 31, h.FAR):
            for count in (0, 2, 4, 8):
                refused.append(h.call(h.TAKE, (kind,), ([60] * count, [])))
                refused.append(h.call(h.TAKE, (kind,), ([60] * count, [60] * count)))
        self.assertEqual(h.split(answers(sum(refused, []))), [[-1]] * len(refused))
        self.check(refused)

    def test_the_other_calls(self):
        stirred = h.Stirred(730)
        calls = []
        for kind in h.KINDS:
            a, b, c = (stirred.near_one(kind, 3) for _ in range(3))
            nan, inf = h.NAN[kind], h.INFINITY[kind]
            for mode in (0, 1, 5):
                calls += [h.op_call(kind, 0, mode, a, nan), h.fma_call(kind, mode, a, b, c), h.scale_call(kind, mode, 3, inf),
                          h.conv_call(kind, 3 - kind, mode, b), h.fn_call(kind, 5, mode, a, b), h.cmp_call(kind, mode, a, nan),
                          h.text_call(kind, a), [h.TEXT, 4 + mode, 0], h.read_call(kind, mode, "1.5"), h.read_call(kind, mode, "x"),
                          h.get_call(kind, mode), h.whole_call(kind, mode, 8, 1, a), h.float_call(kind, mode, 77)]
                for order in range(6):
                    calls += [h.sum_call(kind, order, mode, [a, b, nan]), h.sum_call(kind, order, mode, [a, inf]),
                              h.dot_call(kind, order, mode, [a, b], [b, c]), h.dot_call(kind, order, mode, [a], [b, c])]
        for start in range(0, len(calls), 300):
            self.check(calls[start:start + 300])

    def test_refused_gets(self):
        for kind, mode in ((4, 0), (h.FAR, 0), (0, 5), (3, h.FAR), (4, 5)):
            self.assertEqual(answers(h.get_call(kind, mode)), [1, -1])
            self.check([h.get_call(kind, mode)])


class RowB(unittest.TestCase):
    def test_empty_of_its_bytes_and_of_another_count(self):
        for kind in h.KINDS:
            one, two = h.ONE[kind], h.ONE[kind] + (1 << h.FRACTION_BITS[kind])
            for a in (one, two, 0, h.SIGN[kind], h.INFINITY[kind]):
                row = h.row(kind, a)
                for count in range(9):
                    b = h.row(kind, two)[:count] + [0] * (count - h.BYTES[kind])
                    given = h.split(answers(h.call(h.TAKE, (kind,), (row, b)) + h.get_call(kind, 0)))
                    if count == 0:
                        self.assertEqual(given[0], [0])
                        self.assertEqual(h.bits_of(kind, given[1]), h.wanted_exact(kind, 0, [(kind, a)]))
                    elif count == h.BYTES[kind]:
                        self.assertEqual(given[0], [0])
                        self.assertEqual(h.bits_of(kind, given[1]), h.wanted_exact(kind, 0, [(kind, a, two)]))
                    else:
                        self.assertEqual(given[0], [-1])
                        self.assertEqual(h.bits_of(kind, given[1]), 0)

    def test_a_b_of_nothing_is_a_number(self):
        """b that is 0 is not empty: the product is 0, or with an infinity the NaN."""
        for kind in h.KINDS:
            for b in (0, h.SIGN[kind]):
                calls = [h.add_call(kind, h.ONE[kind], b), h.get_call(kind, 0)]
                self.assertEqual(bits_got(kind, calls), 0)
                calls = [h.add_call(kind, h.INFINITY[kind], b), h.get_call(kind, 0)]
                self.assertEqual(bits_got(kind, calls), h.NAN[kind])


class OneTimeAndTheNext(unittest.TestCase):
    def test_lists_do_not_know_of_each_other(self):
        for terms in ([(3, h.ONE[3])], [(0, 0x7C00)], [(2, h.NAN[2])], [(1, 1, 1), (3, 1)]):
            out = in_each(added(terms))
            answers(sum(added(terms), []))
            self.assertEqual(in_each([]), {(k, m): h.SIGN[k] if m == 1 else 0 for k in h.KINDS for m in h.MODES})
            self.assertEqual(in_each(added(terms)), out)
