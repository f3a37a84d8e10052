"""Lists of several calls: their form, and that nothing is changed and nothing kept."""

import unittest

from bitfloats.numbers import answers
from tests import helper as h


def some_calls(stirred, count):
    out = []
    for i in range(count):
        kind = stirred.below(4)
        mode = stirred.below(6)
        a, b, c = (stirred.bits(kind) for _ in range(3))
        out.append((
            h.op_call(kind, stirred.below(12), mode, a, b), h.fma_call(kind, mode, a, b, c),
            h.scale_call(kind, mode, stirred.below(12000) - 6000, a), h.conv_call(kind, stirred.below(5), mode, a),
            h.fn_call(kind, stirred.below(7), mode, a, b), h.cmp_call(kind, stirred.below(3), a, b), h.text_call(kind, a),
            h.read_call(kind, mode, ("1.5", "none", "-2e7", "0" * 61)[i % 4]),
        )[stirred.below(8)])
    return out


class Lists(unittest.TestCase):
    def test_answers_one_behind_another(self):
        one = [0, 0, 0, 0, 2, 0, 60, 2, 0, 60]
        less = [5, 0, 0, 2, 0, 60, 2, 0, 64]
        wrong = [6, 4, 2, 0, 60]
        none = [7, 0, 0, 0]
        self.assertEqual(answers(one + less + wrong + none + one),
                         [4, 0, 2, 0, 64, 2, 0, -1, 1, -1, 1, -2, 4, 0, 2, 0, 64])

    def test_each_call_has_its_own_answer(self):
        for seed in range(8):
            calls = some_calls(h.Stirred(seed), 60)
            alone = sum((answers(list(one)) for one in calls), [])
            self.assertEqual(answers(sum(calls, [])), alone)

    def test_four_hundred_calls(self):
        calls = some_calls(h.Stirred(400), 400)
        alone = sum((answers(list(one)) for one in calls), [])
        self.assertEqual(answers(sum(calls, [])), alone)
        self.assertEqual(len(h.split(alone)), 400)

    def test_four_hundred_long_calls(self):
        pow_call = h.fn_call(3, h.POW, 1, 0xBFF8000000000001, 0xC008000000000000)
        self.assertEqual(h.split(answers(pow_call * 400)), [h.ask(pow_call)] * 400)
        text_call = h.text_call(3, 1)
        self.assertEqual(h.split(answers(text_call * 400)), [h.ask(text_call)] * 400)

    def test_rows_of_all_lengths(self):
        for count in range(9):
            given = answers([6, 0, count] + [7] * count + [6, 0, 2, 0, 60])
            self.assertEqual(given[-5:], [0, 3] + list(b"1e0"))
        for count in range(101):
            given = answers([7, 0, 0, count] + [120] * count + [6, 0, 2, 0, 60])
            self.assertEqual(given[:2], [1, -2 if count <= 60 else -1])
            self.assertEqual(given[2:], [5, 0, 3] + list(b"1e0"))

    def test_what_is_handed_in_stays(self):
        for seed in range(6):
            calls = sum(some_calls(h.Stirred(seed + 100), 50), [])
            before = list(calls)
            given = answers(calls)
            self.assertEqual(calls, before)
            self.assertIsNot(given, calls)

    def test_a_list_that_is_only_read(self):
        class Fixed(list):
            def changed(self, *given):
                raise AssertionError("the list was changed")

            append = extend = insert = pop = remove = clear = sort = reverse = changed
            __setitem__ = __delitem__ = __iadd__ = __imul__ = changed

        calls = sum(some_calls(h.Stirred(5), 100), [])
        self.assertEqual(answers(Fixed(calls)), answers(calls))

    def test_nothing_is_kept(self):
        first = sum(some_calls(h.Stirred(1), 40), [])
        second = sum(some_calls(h.Stirred(2), 40), [])
        one = answers(first)
        other = answers(second)
        self.assertEqual(answers(first), one)
        self.assertEqual(answers(first), one)
        self.assertEqual(answers(second), other)
        # What was given back is the caller's: changing it changes no later answer.
        kept = list(one)
        one[:] = [99]
        self.assertEqual(answers(first), kept)

    def test_whole_numbers_and_lists_alone(self):
        given = answers(sum(some_calls(h.Stirred(3), 300), []))
        self.assertIs(type(given), list)
        self.assertEqual({type(one) for one in given}, {int})
