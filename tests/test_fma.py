"""Point 3: fma."""

import unittest
from fractions import Fraction

from helper import (ADD, BEGIN, FMA, MULTIPLY, OF, OP, REFUSED, WIDTHS, ask, edge_patterns, exactly, expected_fma,
                    expected_op, greatest, line, minus, mixed_patterns, no_number)


def twice_rounded(a, b, c, w):
    return expected_op(ADD, expected_op(MULTIPLY, a, b, w), c, w)


class Fma(unittest.TestCase):
    def check(self, w, calls):
        given = ask(w, [(FMA, 0) + call for call in calls])
        wrong = [(call, answer) for call, answer in zip(calls, given) if answer != (0, expected_fma(*call, w))]
        self.assertEqual(len(given), len(calls))
        self.assertEqual(wrong[:5], [], w)

    def test_8_bits(self):
        some = range(0, 256, 5)
        self.check(8, [(a, b, c) for a in some for b in some for c in range(2, 256, 7)])

    def test_edges(self):
        for w in WIDTHS:
            edges = edge_patterns(w)
            self.check(w, [(a, b, c) for a in edges for b in edges for c in edges])

    def test_mixed_patterns(self):
        for w in WIDTHS:
            self.check(w, list(zip(*[mixed_patterns(w, 800, seed) for seed in (1, 2, 3)])))

    def test_rounded_once(self):
        # The products' last bits lie just behind those that a pattern has room for.
        for w in WIDTHS:
            one, bits = 2 ** (w - 2), w - 5
            step = exactly(1 + Fraction(1, 2 ** (bits // 2 + 1)), w)
            calls = [(a, step, c) for a in range(one, one + 64) for c in (1, minus(1, w), one, minus(one, w))]
            calls += [(a, step, minus(a, w)) for a in range(one, one + 64)]
            self.check(w, calls)
            otherwise = [call for call in calls if twice_rounded(*call, w) != expected_fma(*call, w)]
            self.assertGreater(len(otherwise), 10, w)

    def test_rounded_once_by_hand(self):
        for w in WIDTHS:
            # (1 + d)^2 - (1 + 2 d) is d^2, which the product alone has no room for.
            d = Fraction(1, 2 ** (w - 5))
            near, twice = exactly(1 + d, w), exactly(-1 - 2 * d, w)
            self.assertEqual(ask(w, [(FMA, 0, near, near, twice)]), [(0, exactly(d * d, w))])
            self.assertEqual(twice_rounded(near, near, twice, w), 0)
            # The product is past the greatest, the sum is not.
            top = greatest(w)
            two, below = exactly(2, w), minus(top, w)
            self.assertEqual(ask(w, [(FMA, 0, top, two, below)]), [(0, top)])
            # The product is below the least, and the sum too, or not at all.
            self.assertEqual(ask(w, [(FMA, 0, 1, exactly(Fraction(1, 2), w), minus(1, w))]), [(0, 2 ** w - 1)])

    def test_sums_that_come_to_0(self):
        for w in WIDTHS:
            top, one = greatest(w), 2 ** (w - 2)
            calls = [(FMA, 0, 0, 0, 0), (FMA, 0, 0, top, 0), (FMA, 0, minus(one, w), 0, 0)]
            for a in (1, 2, one - 1, one, one + 1, top - 1, top):
                calls += [(FMA, 0, a, one, minus(a, w)), (FMA, 0, minus(one, w), a, a)]
            three, five = exactly(3, w), exactly(5, w)
            calls += [(FMA, 0, three, five, exactly(-15, w)), (FMA, 0, 1, top, minus(one, w))]
            self.assertEqual(ask(w, calls), [(0, 0)] * len(calls))

    def test_a_product_of_0_leaves_c(self):
        for w in WIDTHS:
            patterns = edge_patterns(w)
            self.assertEqual(ask(w, [(FMA, 0, 0, 3, c) for c in patterns]), [(0, c) for c in patterns])

    def test_no_number_in_each_place(self):
        for w in WIDTHS:
            none = no_number(w)
            calls = []
            for x in (0, 1, 2 ** (w - 2), greatest(w), 2 ** w - 1, none):
                for y in (0, 3, none):
                    calls += [(FMA, 0, none, x, y), (FMA, 0, x, none, y), (FMA, 0, x, y, none)]
            self.assertEqual(ask(w, calls), [(0, none)] * len(calls))

    def test_what_is_no_pattern_is_refused(self):
        for w in (8, 16, 32):
            one, none = 2 ** (w - 2), no_number(w)
            for wrong in (2 ** w, 2 ** w + 1, 2 ** 64 - 1):
                given = line((BEGIN, 0, w), (FMA, 0, wrong, one, one), (FMA, 0, one, wrong, one),
                             (FMA, 0, one, one, wrong), (FMA, 0, none, none, wrong), (FMA, 0, wrong, none, 0),
                             (FMA, 0, wrong, wrong, wrong), (FMA, 0, one, one, 0), (OF, 0, 1), (OP, 0, ADD, one, 0))
                self.assertEqual(given, [(0,)] + [REFUSED] * 6 + [(0, one)] * 3, (w, wrong))

    def test_the_last_pattern_is_none_too_many(self):
        for w in WIDTHS:
            last, one = 2 ** w - 1, 2 ** (w - 2)
            self.assertEqual(ask(w, [(FMA, 0, one, one, last), (FMA, 0, last, one, 0), (FMA, 0, one, last, 0)]),
                             [(0, expected_fma(one, one, last, w)), (0, last), (0, last)])


if __name__ == "__main__":
    unittest.main()
