"""Points 8 and 9: clear, sum and total, and what begin does to the sum (point 1)."""

import unittest
from fractions import Fraction

from helper import (ADD, BEGIN, CLEAR, DOUBLE, FMA, MULTIPLY, OF, OP, ORDER, PASS, REFUSED, SUM, TOTAL, UNDOUBLE, WHOLE,
                    WIDTHS, edge_patterns, exactly, expected_op, greatest, line, minus, mixed_patterns, no_number,
                    place_above, rounded, run_patterns, says)

OTHER_SIGNS = (2, 3, -1, -2, 2147483647, -2147483648)


def one_of(w):
    return 2 ** (w - 2)


def totals(w, products):
    """The total behind each of the products (a, b, minus)."""
    calls = []
    for a, b, sign in products:
        calls += [(SUM, 0, a, b, sign), (TOTAL, 0)]
    given = line((BEGIN, 0, w), *calls)
    if given[0] != (0,) or set(given[1::2]) != {(0,)}:
        raise AssertionError("begin or a sum was refused")
    return [pattern for code, pattern in given[2::2]]


def expected_totals(w, products):
    found, exact = [], Fraction(0)
    for a, b, sign in products:
        x, y = says(a, w), says(b, w)
        exact = None if None in (exact, x, y) else exact + (-x * y if sign else x * y)
        found.append(rounded(exact, w))
    return found


class Sum(unittest.TestCase):
    def check(self, w, products):
        for start in range(0, len(products), 199):
            part = products[start:start + 199]
            given, expected = totals(w, part), expected_totals(w, part)
            wrong = [row for row in zip(part, given, expected) if row[1] != row[2]]
            self.assertEqual(len(given), len(part))
            self.assertEqual(wrong[:5], [], w)

    def test_by_hand(self):
        for w in WIDTHS:
            one, two, three = one_of(w), exactly(2, w), exactly(3, w)
            given = line((BEGIN, 0, w), (TOTAL, 0), (SUM, 0, two, three, 0), (TOTAL, 0), (SUM, 0, one, two, 1),
                         (TOTAL, 0), (SUM, 0, minus(three, w), two, 0), (TOTAL, 0), (SUM, 0, minus(one, w), three, 1),
                         (TOTAL, 0))
            self.assertEqual(given, [(0,), (0, 0), (0,), (0, exactly(6, w)), (0,), (0, exactly(4, w)),
                                     (0,), (0, exactly(-2, w)), (0,), (0, one)])

    def test_one_product_is_the_product(self):
        for w in WIDTHS:
            for a, b in zip(mixed_patterns(w, 60, 1), mixed_patterns(w, 60, 2)):
                product = expected_op(MULTIPLY, a, b, w)
                self.assertEqual(totals(w, [(a, b, 0)]), [product], (w, a, b))
                self.assertEqual(totals(w, [(a, b, 1)]), [minus(product, w)], (w, a, b))

    def test_edges(self):
        for w in WIDTHS:
            edges = [p for p in edge_patterns(w) if p != no_number(w)]
            self.check(w, [(a, b, (i + j) % 3 % 2) for i, a in enumerate(edges) for j, b in enumerate(edges)])

    def test_mixed_patterns(self):
        for w in WIDTHS:
            some = [p for p in mixed_patterns(w, 1400, 5) if p != no_number(w)]
            half = len(some) // 2
            self.check(w, [(a, b, a % 2) for a, b in zip(some[:half], some[half:])])
            # Near 1 the products are of about one size, and each tells in the total.
            near = [one_of(w) + p % 2 ** (w - 4) for p in some]
            self.check(w, [(a, b, a % 3 % 2) for a, b in zip(near[:half], near[half:])])

    def test_products_added_and_taken_away_again(self):
        for w in WIDTHS:
            some = [p for p in mixed_patterns(w, 200, 3) if p != no_number(w)]
            there = [(a, b, 0) for a, b in zip(some[:98], some[98:])]
            back = [(b, a, 1) for a, b, sign in there]
            self.check(w, there + back)
            self.assertEqual(totals(w, there + back)[-1], 0)

    def test_a_great_product_a_small_one_and_the_great_one_taken_away(self):
        for w in WIDTHS:
            top, one = greatest(w), one_of(w)
            for a, b in ((1, 1), (1, one), (1, top - 1), (one, one), (one + 1, one - 1), (3, minus(5, w))):
                small = expected_op(MULTIPLY, a, b, w)
                for great in (top, top - 1, minus(top, w)):
                    side = rounded(says(great, w) * says(top, w) + says(a, w) * says(b, w), w)
                    given = totals(w, [(great, top, 0), (a, b, 0), (great, top, 1)])
                    self.assertEqual(given[1:], [side, small], (w, a, b))
                    given = totals(w, [(great, top, 1), (a, b, 1), (great, top, 0)])
                    self.assertEqual(given[1:], [minus(side, w), minus(small, w)], (w, a, b))

    def test_sums_that_no_pattern_could_hold(self):
        for w in WIDTHS:
            top, one, least = greatest(w), one_of(w), 1
            # 100 times the greatest squared, beside 30 times the least squared.
            up = [(top, top, 0)] * 100 + [(least, least, 0)] * 30
            down = [(top, top, 1)] * 99 + [(minus(top, w), top, 0)]
            given = totals(w, up + down[:60])
            self.assertEqual(given[-1], top)
            calls = [(SUM, 0) + product for product in up + down] + [(TOTAL, 0)]
            self.assertEqual(line((BEGIN, 0, w), *calls)[-1], (0, 1))
            calls = [(SUM, 0) + product for product in up + down] + [(SUM, 0, least, least, 1)] * 30
            given = line((BEGIN, 0, w), *calls, (TOTAL, 0), (SUM, 0, one, one, 0), (TOTAL, 0))
            self.assertEqual(given[-3:], [(0, 0), (0,), (0, one)])
            self.assertLess(30 * says(1, w) ** 2, says(1, w))

    def test_many_small_ones_come_to_something(self):
        for w in WIDTHS:
            # One product is too small to tell beside 1; 256 of them are not.
            step = exactly(Fraction(1, 2 ** (w - 4)), w)
            near = rounded(1 + Fraction(256, 2 ** (w - 4)), w)
            one = one_of(w)
            calls = [(SUM, 0, one, one, 0)] + [(SUM, 0, step, one, 0)] * 256
            self.assertEqual(line((BEGIN, 0, w), *calls, (TOTAL, 0))[-1], (0, near))
            self.assertEqual(expected_op(ADD, one, step, w), one)

    def test_rounded_once_at_and_beside_a_place(self):
        for w in WIDTHS:
            one = one_of(w)
            # 1 + d has a pattern, and half a d more is the place; the least squared is far below.
            d = Fraction(1, 2 ** (w - 5))
            half = exactly(d / 2, w)
            for u in (one, one + 1, one + 2):
                self.assertEqual(says(u, w) + d / 2, place_above(u, w))
                for sign in (0, 1):
                    way = (lambda p: minus(p, w)) if sign else (lambda p: p)
                    row = [(u, one, sign), (half, one, sign), (1, 1, 1 - sign), (1, 1, sign), (1, 1, sign)]
                    expected = [u, u + u % 2, u, u + u % 2, u + 1]
                    self.assertEqual(totals(w, row), [way(p) for p in expected], (w, u, sign))

    def test_totals_of_patterns_in_each_run(self):
        for w in WIDTHS:
            self.check(w, [(a, one_of(w), 0) for a in run_patterns(w)])
            for a in run_patterns(w)[::5]:
                self.assertEqual(totals(w, [(a, one_of(w), 0), (a, minus(one_of(w), w), 0)]), [a, 0])

    def test_beyond_the_greatest_and_below_the_least(self):
        for w in WIDTHS:
            top = greatest(w)
            self.assertEqual(totals(w, [(top, top, 0), (top, top, 0)]), [top, top])
            self.assertEqual(totals(w, [(top, top, 1), (top, top, 1)]), [minus(top, w)] * 2)
            self.assertEqual(totals(w, [(1, 1, 0), (1, 1, 1), (1, 1, 1)]), [1, 0, 2 ** w - 1])

    def test_products_with_0(self):
        for w in WIDTHS:
            top = greatest(w)
            row = [(0, 0, 0), (0, top, 1), (top, 0, 0), (3, one_of(w), 0), (0, top, 0), (0, 0, 1)]
            self.assertEqual(totals(w, row), [0, 0, 0, 3, 3, 3])

    def test_a_total_that_is_0(self):
        for w in WIDTHS:
            three, five, one = exactly(3, w), exactly(5, w), one_of(w)
            row = [(three, five, 0), (exactly(15, w), one, 1), (one, three, 1), (three, minus(one, w), 1)]
            self.assertEqual(totals(w, row)[1::2], [0, 0])
            self.assertEqual(line((BEGIN, 0, w), (TOTAL, 0), (CLEAR, 0), (TOTAL, 0)), [(0,), (0, 0), (0,), (0, 0)])

    def test_total_twice_in_a_row(self):
        for w in WIDTHS:
            one = one_of(w)
            half = exactly(Fraction(1, 2 ** (w - 4)), w)
            # Were the total kept in the place of the sum, the last one would be 1.
            given = line((BEGIN, 0, w), (SUM, 0, one, one, 0), (SUM, 0, half, one, 0), (TOTAL, 0), (TOTAL, 0),
                         (SUM, 0, half, one, 0), (TOTAL, 0), (TOTAL, 0))
            self.assertEqual(given[3:], [(0, one), (0, one), (0,), (0, one + 1), (0, one + 1)], w)


class Minus(unittest.TestCase):
    def test_another_minus_is_refused_and_leaves_the_sum(self):
        for w in WIDTHS:
            one, two, three = one_of(w), exactly(2, w), exactly(3, w)
            for sign in OTHER_SIGNS:
                given = line((BEGIN, 0, w), (SUM, 0, three, one, 0), (SUM, 0, one, two, sign), (TOTAL, 0),
                             (SUM, 0, no_number(w), two, sign), (SUM, 0, two, no_number(w), sign), (TOTAL, 0),
                             (SUM, 0, two, one, 1), (TOTAL, 0))
                self.assertEqual(given, [(0,), (0,), REFUSED, (0, three), REFUSED, REFUSED, (0, three), (0,), (0, one)],
                                 (w, sign))


class Patterns(unittest.TestCase):
    def test_what_is_no_pattern_is_refused_and_leaves_the_sum(self):
        for w in (8, 16, 32):
            one, three, none = one_of(w), exactly(3, w), no_number(w)
            for wrong in (2 ** w, 2 ** w + 1, 2 ** w + one, 2 ** 63, 2 ** 64 - 1):
                calls = [(SUM, 0, a, b, sign) for sign in (0, 1, 2) for a, b in (
                    (wrong, one), (one, wrong), (wrong, 0), (0, wrong), (none, wrong), (wrong, none), (wrong, wrong))]
                given = line((BEGIN, 0, w), (SUM, 0, three, one, 0), *calls, (TOTAL, 0), (SUM, 0, one, one, 0),
                             (TOTAL, 0))
                self.assertEqual(given[2:], [REFUSED] * len(calls) + [(0, three), (0,), (0, exactly(4, w))], (w, wrong))

    def test_the_last_pattern_is_none_too_many(self):
        for w in WIDTHS:
            last, one = 2 ** w - 1, one_of(w)
            self.assertEqual(totals(w, [(last, one, 0), (one, last, 1), (last, minus(one, w), 0)]), [last, 0, 1])


class NoNumber(unittest.TestCase):
    def spoilt(self, w):
        """Sums by which the sum is none from then on."""
        none = no_number(w)
        for x in (0, 1, one_of(w), greatest(w), 2 ** w - 1, none):
            for sign in (0, 1):
                yield SUM, 0, none, x, sign
                yield SUM, 0, x, none, sign

    def test_no_number_in_a_or_b_lasts_over_later_sums(self):
        for w in WIDTHS:
            one, none = one_of(w), no_number(w)
            for spoil in self.spoilt(w):
                given = line((BEGIN, 0, w), (SUM, 0, one, one, 0), spoil, (TOTAL, 0), (SUM, 0, one, one, 0), (TOTAL, 0),
                             (SUM, 0, 0, 0, 1), (SUM, 0, none, none, 1), (SUM, 0, one, one, 2), (BEGIN, 0, 9),
                             (TOTAL, 0), (TOTAL, 0))
                self.assertEqual(given, [(0,), (0,), (0,), (0, none), (0,), (0, none), (0,), (0,), REFUSED, REFUSED,
                                         (0, none), (0, none)], (w, spoil))

    def test_cleared_it_is_0_again(self):
        for w in WIDTHS:
            one, three = one_of(w), exactly(3, w)
            for spoil in self.spoilt(w):
                given = line((BEGIN, 0, w), spoil, (CLEAR, 0), (TOTAL, 0), (SUM, 0, three, one, 0), (TOTAL, 0))
                self.assertEqual(given, [(0,), (0,), (0,), (0, 0), (0,), (0, three)])

    def test_begun_it_is_0_again(self):
        for w in WIDTHS:
            for v in WIDTHS:
                for spoil in self.spoilt(w):
                    given = line((BEGIN, 0, w), spoil, (BEGIN, 0, v), (TOTAL, 0), (SUM, 0, one_of(v), one_of(v), 1),
                                 (TOTAL, 0))
                    self.assertEqual(given, [(0,), (0,), (0,), (0, 0), (0,), (0, 3 * one_of(v))])


class Clear(unittest.TestCase):
    def test_the_sum_is_0(self):
        for w in WIDTHS:
            one, top = one_of(w), greatest(w)
            for a, b in ((one, one), (top, top), (1, 1), (minus(top, w), 1), (0, 0)):
                given = line((BEGIN, 0, w), (CLEAR, 0), (SUM, 0, a, b, 0), (SUM, 0, a, b, 0), (CLEAR, 0), (TOTAL, 0),
                             (SUM, 0, 1, 1, 1), (TOTAL, 0), (CLEAR, 0), (CLEAR, 0), (TOTAL, 0), (OF, 0, 1))
                self.assertEqual(given, [(0,)] * 5 + [(0, 0), (0,), (0, 2 ** w - 1), (0,), (0,), (0, 0), (0, one)])


class Begin(unittest.TestCase):
    def test_the_sum_is_0(self):
        for w in WIDTHS:
            for v in WIDTHS:
                given = line((BEGIN, 0, w), (TOTAL, 0), (SUM, 0, one_of(w), one_of(w), 0), (BEGIN, 0, v), (TOTAL, 0),
                             (SUM, 0, 1, 1, 0), (TOTAL, 0))
                self.assertEqual(given, [(0,), (0, 0), (0,), (0,), (0, 0), (0,), (0, 1)], (w, v))

    def test_refused_it_leaves_the_sum(self):
        for w in WIDTHS:
            one, three = one_of(w), exactly(3, w)
            for other in (0, -1, 1, 7, 9, 24, 65, 128, -8, 2147483647, -2147483648):
                given = line((BEGIN, 0, w), (SUM, 0, three, one, 0), (SUM, 0, 1, 1, 0), (BEGIN, 0, other), (TOTAL, 0),
                             (SUM, 0, three, one, 1), (TOTAL, 0))
                self.assertEqual(given, [(0,), (0,), (0,), REFUSED, (0, three), (0,), (0, 1)], (w, other))


class Benches(unittest.TestCase):
    def test_other_calls_leave_the_sum(self):
        for w in WIDTHS:
            one, three, none = one_of(w), exactly(3, w), no_number(w)
            calls = [(OP, 0, choice, a, three) for choice in range(-1, 7) for a in (one, none)]
            calls += [(FMA, 0, one, three, one), (FMA, 0, one, three, none), (ORDER, 0, one, none), (OF, 0, 5)]
            calls += [(PASS, 0, v, a) for v in WIDTHS + (9,) for a in (one, none)]
            calls += [(WHOLE, 0, three), (WHOLE, 0, none), (DOUBLE, 0, none), (UNDOUBLE, 0, 2 ** 64 - 1),
                      (UNDOUBLE, 0, 0), (TOTAL, 0)]
            given = line((BEGIN, 0, w), (SUM, 0, three, one, 0), *calls, (TOTAL, 0))
            self.assertEqual(given[-1], (0, three), w)

    def test_both_with_different_sums_at_the_same_time(self):
        for w in WIDTHS:
            for v in WIDTHS:
                one, unit = one_of(w), one_of(v)
                two, three = exactly(2, w), exactly(3, v)
                given = line((BEGIN, 0, w), (BEGIN, 1, v), (SUM, 0, one, two, 0), (SUM, 1, unit, three, 1), (TOTAL, 0),
                             (TOTAL, 1), (CLEAR, 0), (TOTAL, 0), (TOTAL, 1), (SUM, 0, no_number(w), one, 0), (TOTAL, 1),
                             (SUM, 1, unit, unit, 0), (TOTAL, 1), (TOTAL, 0), (BEGIN, 0, v), (TOTAL, 1), (TOTAL, 0),
                             (SUM, 1, no_number(v), 0, 0), (SUM, 0, unit, unit, 0), (TOTAL, 1), (TOTAL, 0))
                self.assertEqual(given, [
                    (0,), (0,), (0,), (0,), (0, two), (0, minus(three, v)), (0,), (0, 0), (0, minus(three, v)), (0,),
                    (0, minus(three, v)), (0,), (0, exactly(-2, v)), (0, no_number(w)), (0,), (0, exactly(-2, v)),
                    (0, 0), (0,), (0,), (0, no_number(v)), (0, unit)], (w, v))


if __name__ == "__main__":
    unittest.main()
