"""The interface: how calls and answers stand in their lists, and that nothing is changed or kept."""

import unittest

from helper import (BEGIN, CLEAR, DOUBLE, FMA, OF, OP, ORDER, PASS, SUM, TOTAL, UNDOUBLE, WHOLE, WIDTHS,
                    mixed_patterns)
from taperbench.benches import answers


class ReadOnly(list):
    """A list that fails at every change, also one that's taken back."""

    def refuse(self, *given, **named):
        raise AssertionError("the list handed in was changed")

    append = clear = extend = insert = pop = remove = reverse = sort = refuse
    __setitem__ = __delitem__ = __iadd__ = __imul__ = refuse


def long_list(w):
    """400 calls of all twelve kinds, of both benches, refused ones among them."""
    calls = [BEGIN, 0, w, BEGIN, 1, 8]
    a, b, c = (mixed_patterns(w, 80, seed) for seed in (1, 2, 3))
    for k in range(33):
        calls += [OP, 0, k % 7, a[k], b[k], FMA, 0, a[k], b[k], c[k], ORDER, 0, a[k], b[k], OF, 0, a[k] - 2 ** (w - 1)]
        calls += [WHOLE, 0, a[k], PASS, 0, (8, 16, 32, 64, 9)[k % 5], a[k], DOUBLE, 0, a[k], UNDOUBLE, 0, a[k] << k % 2]
        calls += [SUM, 0, a[k], b[k], k % 3, SUM, 1, a[k] % 300, b[k] % 256, k % 2, TOTAL, 0]
        calls += [CLEAR, 0] if k % 9 == 8 else [TOTAL, 1]
    return calls + [OF, 1, 3, BEGIN, 1, 5]


class Lists(unittest.TestCase):
    def test_counts_stand_before_the_answers(self):
        calls = [BEGIN, 0, 8, OP, 0, 0, 64, 64, FMA, 0, 64, 64, 64, ORDER, 0, 0, 64, OF, 0, 1, WHOLE, 0, 64,
                 PASS, 0, 16, 64, DOUBLE, 0, 64, UNDOUBLE, 0, 0x4000000000000000, SUM, 0, 64, 72, 1, TOTAL, 0, CLEAR, 0,
                 TOTAL, 0]
        self.assertEqual(answers(calls), [1, 0, 2, 0, 72, 2, 0, 72, 1, -1, 2, 0, 64, 2, 0, 1, 2, 0, 2 ** 14,
                                          2, 0, 0x3FF0000000000000, 2, 0, 72, 1, 0, 2, 0, 184, 1, 0, 2, 0, 0])

    def test_a_refusal_stands_alone(self):
        calls = [BEGIN, 0, 9, BEGIN, 0, 8, OP, 0, 6, 64, 64, OP, 0, 0, 256, 0, FMA, 0, 0, 0, 256, ORDER, 0, 256, 0,
                 WHOLE, 0, 256, PASS, 0, 9, 64, PASS, 0, 16, 256, DOUBLE, 0, 256, SUM, 0, 64, 64, 2, SUM, 0, 256, 0, 0,
                 TOTAL, 0]
        self.assertEqual(answers(calls), [1, -2, 1, 0] + [1, -2] * 10 + [2, 0, 0])

    def test_one_call(self):
        self.assertEqual(answers([BEGIN, 1, 64]), [1, 0])
        self.assertEqual(answers([BEGIN, 1, 0]), [1, -2])

    def test_benches_stand_apart(self):
        calls = [BEGIN, 1, 16, BEGIN, 0, 8, OF, 1, 1, OF, 0, 1, BEGIN, 0, 32, OF, 1, 1, OF, 0, 1]
        self.assertEqual(answers(calls), [1, 0, 1, 0, 2, 0, 2 ** 14, 2, 0, 64, 1, 0, 2, 0, 2 ** 14, 2, 0, 2 ** 30])

    def test_a_list_of_ints_alone(self):
        for w in WIDTHS:
            given = answers(long_list(w))
            self.assertIs(type(given), list)
            self.assertEqual({type(number) for number in given}, {int})

    def test_400_calls(self):
        for w in WIDTHS:
            given = answers(long_list(w))
            count = place = 0
            while place < len(given):
                place += 1 + given[place]
                count += 1
            self.assertEqual((count, place), (400, len(given)))

    def test_all_twelve_kinds_are_among_them(self):
        sizes = {BEGIN: 3, OP: 5, FMA: 5, ORDER: 4, OF: 3, WHOLE: 3, PASS: 4, DOUBLE: 3, UNDOUBLE: 3, CLEAR: 2, SUM: 5,
                 TOTAL: 2}
        for w in WIDTHS:
            calls, kinds, place = long_list(w), set(), 0
            while place < len(calls):
                kinds.add(calls[place])
                place += sizes[calls[place]]
            self.assertEqual((kinds, place), (set(range(12)), len(calls)))

    def test_400_calls_of_one_kind(self):
        for call in ([OP, 0, 3, 65, 77], [FMA, 0, 1, 1, 1], [ORDER, 0, 1, 2], [OF, 0, 9], [WHOLE, 0, 9],
                     [PASS, 0, 64, 9], [DOUBLE, 0, 9], [UNDOUBLE, 0, 9], [CLEAR, 0], [SUM, 0, 1, 127, 0], [TOTAL, 0],
                     [BEGIN, 0, 8]):
            one = answers([BEGIN, 0, 8] + call)
            self.assertEqual(answers([BEGIN, 0, 8] + call * 399), one[:2] + one[2:] * 399)

    def test_what_is_handed_in_is_not_changed(self):
        for w in WIDTHS:
            calls = long_list(w)
            kept = list(calls)
            given = answers(calls)
            self.assertEqual(calls, kept)
            self.assertEqual(answers(ReadOnly(calls)), given)

    def test_what_is_given_back_is_new(self):
        calls = long_list(16)
        first = answers(calls)
        kept = list(first)
        second = answers(calls)
        self.assertIsNot(first, second)
        second.clear()
        self.assertEqual(first, kept)

    def test_nothing_is_kept(self):
        for w in WIDTHS:
            calls = long_list(w)
            first = answers(calls)
            answers([BEGIN, 0, 8, BEGIN, 1, 32, OF, 0, 5, OF, 1, 5, SUM, 0, 64, 64, 0, SUM, 1, 2 ** 31, 0, 0])
            self.assertEqual(answers(calls), first)
            self.assertEqual(answers(list(calls)), first)


if __name__ == "__main__":
    unittest.main()
