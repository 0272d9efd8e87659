"""The interface: how calls and answers stand in their lists, and that nothing is changed or kept."""

import unittest

from helper import BEGIN, FMA, OF, OP, ORDER, WHOLE, WIDTHS, mixed_patterns
from taperbench.benches import answers


class ReadOnly(list):
    """A list that fails at every change, also one that's taken back."""

    def refuse(self, *given, **named):
        raise AssertionError("the list handed in was changed")

    append = clear = extend = insert = pop = remove = reverse = sort = refuse
    __setitem__ = __delitem__ = __iadd__ = __imul__ = refuse


def long_list(w):
    """400 calls of all sorts, of both benches, refused ones among them."""
    calls = [BEGIN, 0, w, BEGIN, 1, 8]
    a, b, c = (mixed_patterns(w, 80, seed) for seed in (1, 2, 3))
    for k in range(66):
        calls += [OP, 0, k % 7, a[k], b[k], FMA, 0, a[k], b[k], c[k], ORDER, 0, a[k], b[k], OF, 0, a[k] - 2 ** (w - 1)]
        calls += [WHOLE, 0, a[k], OP, 1, k % 6, a[k], b[k] % 256]
    return calls + [OF, 1, 3, BEGIN, 1, 5]


class Lists(unittest.TestCase):
    def test_counts_stand_before_the_answers(self):
        calls = [BEGIN, 0, 8, OP, 0, 0, 64, 64, FMA, 0, 64, 64, 64, ORDER, 0, 0, 64, OF, 0, 1, WHOLE, 0, 64]
        self.assertEqual(answers(calls), [1, 0, 2, 0, 72, 2, 0, 72, 1, -1, 2, 0, 64, 2, 0, 1])

    def test_a_refusal_stands_alone(self):
        calls = [BEGIN, 0, 9, BEGIN, 0, 8, OP, 0, 6, 64, 64, OP, 0, 0, 256, 0, FMA, 0, 0, 0, 256, ORDER, 0, 256, 0,
                 WHOLE, 0, 256]
        self.assertEqual(answers(calls), [1, -2, 1, 0, 1, -2, 1, -2, 1, -2, 1, -2, 1, -2])

    def test_one_call(self):
        self.assertEqual(answers([BEGIN, 1, 64]), [1, 0])
        self.assertEqual(answers([BEGIN, 1, 0]), [1, -2])

    def test_benches_stand_apart(self):
        calls = [BEGIN, 1, 16, BEGIN, 0, 8, OF, 1, 1, OF, 0, 1, BEGIN, 0, 32, OF, 1, 1, OF, 0, 1]
        self.assertEqual(answers(calls), [1, 0, 1, 0, 2, 0, 2 ** 14, 2, 0, 64, 1, 0, 2, 0, 2 ** 14, 2, 0, 2 ** 30])

    def test_a_list_of_ints_alone(self):
        for w in WIDTHS:
            given = answers(long_list(w))
            self.assertIs(type(given), list)
            self.assertEqual({type(number) for number in given}, {int})

    def test_400_calls(self):
        for w in WIDTHS:
            given = answers(long_list(w))
            count = place = 0
            while place < len(given):
                place += 1 + given[place]
                count += 1
            self.assertEqual((count, place), (400, len(given)))

    def test_what_is_handed_in_is_not_changed(self):
        for w in WIDTHS:
            calls = long_list(w)
            kept = list(calls)
            given = answers(calls)
            self.assertEqual(calls, kept)
            self.assertEqual(answers(ReadOnly(calls)), given)

    def test_what_is_given_back_is_new(self):
        calls = long_list(16)
        first = answers(calls)
        kept = list(first)
        second = answers(calls)
        self.assertIsNot(first, second)
        second.clear()
        self.assertEqual(first, kept)

    def test_nothing_is_kept(self):
        for w in WIDTHS:
            calls = long_list(w)
            first = answers(calls)
            answers([BEGIN, 0, 8, BEGIN, 1, 32, OF, 0, 5, OF, 1, 5])
            self.assertEqual(answers(calls), first)
            self.assertEqual(answers(list(calls)), first)


if __name__ == "__main__":
    unittest.main()
