"""Point 4: order."""

import unittest

from helper import (BEGIN, OF, ORDER, REFUSED, WIDTHS, ask, compare, edge_patterns, greatest, line, minus,
                    mixed_patterns, no_number, says)


def expected_order(a, b, w):
    x, y = says(a, w), says(b, w)
    if x is None or y is None:
        return compare(x is not None, y is not None)
    return compare(x, y)


class Order(unittest.TestCase):
    def check(self, w, pairs):
        given = ask(w, [(ORDER, 0, a, b) for a, b in pairs])
        wrong = [(pair, answer) for pair, answer in zip(pairs, given) if answer != (expected_order(*pair, w),)]
        self.assertEqual(len(given), len(pairs))
        self.assertEqual(wrong[:5], [], w)

    def test_8_bits_every_pair(self):
        self.check(8, [(a, b) for a in range(256) for b in range(256)])

    def test_edges_and_mixed_patterns(self):
        for w in WIDTHS:
            patterns = edge_patterns(w) + mixed_patterns(w, 30, 1)
            self.check(w, [(a, b) for a in patterns for b in patterns])

    def test_each_pair_of_signs(self):
        for w in WIDTHS:
            one, two = 2 ** (w - 2), 2 ** (w - 2) + 2 ** (w - 5)
            rows = ((one, two, -1), (two, one, 1), (one, one, 0), (minus(one, w), two, -1), (one, minus(two, w), 1),
                    (minus(one, w), minus(two, w), 1), (minus(two, w), minus(one, w), -1),
                    (minus(two, w), minus(two, w), 0), (0, 0, 0), (0, 1, -1), (1, 0, 1), (0, 2 ** w - 1, 1),
                    (2 ** w - 1, 0, -1), (greatest(w), minus(greatest(w), w), 1))
            given = ask(w, [(ORDER, 0, a, b) for a, b, sign in rows])
            self.assertEqual(given, [(sign,) for a, b, sign in rows], w)

    def test_no_number_comes_before_every_number(self):
        for w in WIDTHS:
            none = no_number(w)
            numbers = [p for p in edge_patterns(w) if p != none]
            self.assertIn(none + 1, numbers)
            self.assertEqual(ask(w, [(ORDER, 0, none, p) for p in numbers]), [(-1,)] * len(numbers))
            self.assertEqual(ask(w, [(ORDER, 0, p, none) for p in numbers]), [(1,)] * len(numbers))
            self.assertEqual(ask(w, [(ORDER, 0, none, none)]), [(0,)])

    def test_what_is_no_pattern_is_refused(self):
        for w in (8, 16, 32):
            one = 2 ** (w - 2)
            for wrong in (2 ** w, 2 ** w + one, 2 ** 64 - 1):
                given = line((BEGIN, 0, w), (ORDER, 0, wrong, one), (ORDER, 0, one, wrong), (ORDER, 0, wrong, wrong),
                             (ORDER, 0, no_number(w), wrong), (ORDER, 0, one, one), (OF, 0, 1))
                self.assertEqual(given, [(0,)] + [REFUSED] * 4 + [(0,), (0, one)], (w, wrong))


if __name__ == "__main__":
    unittest.main()
