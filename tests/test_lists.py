"""Lists of several calls: their form, and that nothing is changed and nothing kept."""

import unittest

from bitfloats.numbers import answers
from tests import helper as h


def some_calls(stirred, count):
    """Calls of the first eight sorts, which know of no accumulator, some of them refused."""
    return [some_call(stirred, stirred.below(8), i) for i in range(count)]


def some_call(stirred, number, turn):
    kind = stirred.below(4)
    mode = stirred.below(6)
    a, b, c = (stirred.bits(kind) for _ in range(3))
    return (
        lambda: h.op_call(kind, stirred.below(12), mode, a, b), lambda: h.fma_call(kind, mode, a, b, c),
        lambda: h.scale_call(kind, mode, stirred.below(12000) - 6000, a), lambda: h.conv_call(kind, stirred.below(5), mode, a),
        lambda: h.fn_call(kind, stirred.below(7), mode, a, b), lambda: h.cmp_call(kind, stirred.below(3), a, b),
        lambda: h.text_call(kind, a), lambda: h.read_call(kind, mode, ("1.5", "none", "-2e7", "0" * 61)[turn % 4]),
        lambda: [h.CLEAR], lambda: some_add(stirred, kind), lambda: h.get_call(kind, mode),
        lambda: h.sum_call(kind, stirred.below(6), mode, some_numbers(stirred, kind, turn)),
        lambda: some_dot(stirred, kind, mode, turn),
        lambda: h.whole_call(kind, mode, stirred.below(50), stirred.below(3), stirred.near_one(kind, 14)),
        lambda: h.float_call(kind, mode, stirred.below(2 * h.FAR + 1) - h.FAR),
    )[number]()


def some_add(stirred, kind):
    """One of eight has a row too long or too short."""
    a = h.row(kind, stirred.near_one(kind, 14))
    b = h.row(kind, stirred.near_one(kind, 14)) if stirred.below(2) else []
    wrong = stirred.below(16)
    if wrong == 0:
        a = a[1:]
    if wrong == 1:
        b = [7] * (1 + h.BYTES[kind] % 8)
    return h.call(h.TAKE, (kind,), (a, b))


def some_numbers(stirred, kind, turn):
    return [stirred.near_one(kind, 9) for _ in range(stirred.below((3, 9, 66)[turn % 3]))]


def some_dot(stirred, kind, mode, turn):
    some = some_numbers(stirred, kind, turn)
    others = [stirred.near_one(kind, 9) for _ in some]
    return h.dot_call(kind, stirred.below(6), mode, some, others[stirred.below(9) == 0:])


def mixed_calls(stirred, most_calls, most_numbers):
    """Calls of all fifteen sorts, as many as the bounds leave room for."""
    out = []
    room = most_numbers
    while len(out) < most_calls:
        number = stirred.below(15)
        # The accumulator is to be filled and asked more often than it is made empty.
        if number == h.CLEAR and stirred.below(2):
            number = h.GET
        one = some_call(stirred, number, len(out))
        if len(one) > room:
            break
        room -= len(one)
        out.append(one)
    return out


def wanted_add(terms, wholes, rows):
    kind = wholes[0]
    bytes_there = [len(row) for row in rows if row or row is rows[0]]
    if any(count != h.BYTES[kind] for count in bytes_there):
        return [-1]
    terms.append((kind,) + tuple(int.from_bytes(bytes(row), "little") for row in rows if row))
    return [0]


def wanted_answers(calls):
    """Calls that know of the accumulator by the second account, the others as they are answered alone."""
    out = []
    terms = []
    for one in calls:
        if one[0] == h.CLEAR:
            terms = []
            out.append([0])
        elif one[0] == h.TAKE:
            a_end = 3 + one[2]
            out.append(wanted_add(terms, one[1:2], [one[3:a_end], one[a_end + 1:]]))
        elif one[0] == h.GET and one[2] <= 4:
            out.append([0] + h.counted(h.row(one[1], h.wanted_exact(one[1], one[2], terms))))
        else:
            out.append(h.ask(one))
    return out


class Lists(unittest.TestCase):
    def test_answers_one_behind_another(self):
        one = [0, 0, 0, 0, 2, 0, 60, 2, 0, 60]
        less = [5, 0, 0, 2, 0, 60, 2, 0, 64]
        wrong = [6, 4, 2, 0, 60]
        none = [7, 0, 0, 0]
        self.assertEqual(answers(one + less + wrong + none + one),
                         [4, 0, 2, 0, 64, 2, 0, -1, 1, -1, 1, -2, 4, 0, 2, 0, 64])

    def test_each_call_has_its_own_answer(self):
        for seed in range(8):
            calls = some_calls(h.Stirred(seed), 60)
            alone = sum((answers(list(one)) for one in calls), [])
            self.assertEqual(answers(sum(calls, [])), alone)

    def test_four_hundred_calls(self):
        calls = some_calls(h.Stirred(400), 400)
        alone = sum((answers(list(one)) for one in calls), [])
        self.assertEqual(answers(sum(calls, [])), alone)
        self.assertEqual(len(h.split(alone)), 400)

    def test_four_hundred_long_calls(self):
        pow_call = h.fn_call(3, h.POW, 1, 0xBFF8000000000001, 0xC008000000000000)
        self.assertEqual(h.split(answers(pow_call * 400)), [h.ask(pow_call)] * 400)
        text_call = h.text_call(3, 1)
        self.assertEqual(h.split(answers(text_call * 400)), [h.ask(text_call)] * 400)

    def test_all_fifteen_calls_mixed(self):
        for seed in range(20):
            calls = mixed_calls(h.Stirred(seed + 900), 60, 19000)
            self.assertEqual({one[0] for one in calls} - set(range(15)), set())
            self.assertEqual(h.split(answers(sum(calls, []))), wanted_answers(calls))

    def test_four_hundred_mixed_calls(self):
        for seed in range(4):
            calls = mixed_calls(h.Stirred(seed + 940), 400, 19000)
            self.assertEqual(len(calls), 400)
            self.assertEqual({one[0] for one in calls}, set(range(15)))
            handed = sum(calls, [])
            before = list(handed)
            self.assertEqual(h.split(answers(handed)), wanted_answers(calls))
            self.assertEqual(handed, before)

    def test_nineteen_thousand_numbers(self):
        stirred = h.Stirred(950)
        calls = mixed_calls(stirred, 150, 7000)
        room = 19000 - sum(len(one) for one in calls)
        while room >= 2100:
            kind = stirred.below(4)
            some = [stirred.near_one(kind, 9) for _ in range(64)]
            others = [stirred.near_one(kind, 9) for _ in range(64)]
            more = [h.dot_call(kind, stirred.below(5), stirred.below(5), some, others), h.add_call(kind, some[0], others[0]),
                    h.get_call(kind, 0), h.call(h.SUM, (kind, 0, 0), ([60] * 999,)), h.float_call(kind, 2, room)]
            room -= sum(len(one) for one in more)
            calls += more
        while room:
            # What is left over has to be enough for one more such call.
            size = min(room, 1005) if room >= 1010 or room <= 1005 else 1000
            calls.append(h.call(h.SUM, (1, room % 5, 0), ([60] * (size - 5),)))
            room -= size
        handed = sum(calls, [])
        self.assertEqual(len(handed), 19000)
        self.assertLessEqual(len(calls), 400)
        self.assertEqual({one[0] for one in calls}, set(range(15)))
        before = list(handed)
        self.assertEqual(h.split(answers(handed)), wanted_answers(calls))
        self.assertEqual(handed, before)

    def test_the_greatest_rows(self):
        """Rows of 1,000 bytes, which are too many numbers or no whole ones, and the calls behind them."""
        for kind in h.KINDS:
            calls = h.call(h.SUM, (kind, 4, 0), ([1] * 1000,)) + h.call(h.DOT, (kind, 4, 0), ([1] * 1000, [2] * 1000))
            self.assertEqual(answers(calls + h.get_call(0, 0)), [1, -1, 1, -1, 4, 0, 2, 0, 0])

    def test_rows_of_all_lengths(self):
        for count in range(9):
            given = answers([6, 0, count] + [7] * count + [6, 0, 2, 0, 60])
            self.assertEqual(given[-5:], [0, 3] + list(b"1e0"))
        for count in range(101):
            given = answers([7, 0, 0, count] + [120] * count + [6, 0, 2, 0, 60])
            self.assertEqual(given[:2], [1, -2 if count <= 60 else -1])
            self.assertEqual(given[2:], [5, 0, 3] + list(b"1e0"))

    def test_what_is_handed_in_stays(self):
        for seed in range(6):
            calls = sum(mixed_calls(h.Stirred(seed + 100), 80, 19000), [])
            before = list(calls)
            given = answers(calls)
            self.assertEqual(calls, before)
            self.assertIsNot(given, calls)

    def test_a_list_that_is_only_read(self):
        class Fixed(list):
            def changed(self, *given):
                raise AssertionError("the list was changed")

            append = extend = insert = pop = remove = clear = sort = reverse = changed
            __setitem__ = __delitem__ = __iadd__ = __imul__ = changed

        calls = sum(mixed_calls(h.Stirred(5), 200, 19000), [])
        self.assertEqual(answers(Fixed(calls)), answers(calls))

    def test_nothing_is_kept(self):
        first = h.get_call(3, 1) + sum(mixed_calls(h.Stirred(1), 80, 9000), []) + h.add_call(3, h.NAN[3])
        second = h.get_call(3, 0) + sum(mixed_calls(h.Stirred(2), 80, 9000), []) + h.add_call(2, h.INFINITY[2])
        one = answers(first)
        other = answers(second)
        self.assertEqual(answers(first), one)
        self.assertEqual(answers(first), one)
        self.assertEqual(answers(second), other)
        # What was given back is the caller's: changing it changes no later answer.
        kept = list(one)
        one[:] = [99]
        self.assertEqual(answers(first), kept)

    def test_whole_numbers_and_lists_alone(self):
        given = answers(sum(mixed_calls(h.Stirred(3), 300, 19000), []))
        self.assertIs(type(given), list)
        self.assertEqual({type(one) for one in given}, {int})
