"""Point 2: op."""

import unittest
from fractions import Fraction

from helper import (ADD, BEGIN, DIVIDE, MULTIPLY, NEAREST, OF, OP, REFUSED, ROOT, SUBTRACT, WIDTHS, ask, compare,
                    edge_patterns, exactly, expected_op, greatest, line, minus, mixed_patterns, no_number,
                    place_above, rounded, run_patterns, says)

ALL_OPS = (ADD, SUBTRACT, MULTIPLY, DIVIDE, ROOT, NEAREST)
OTHER_OPS = (6, 7, 8, 64, 255, 2147483647, -1, -2, -3, -4, -5, -6, -7, -2147483648)


class AgainstFractions(unittest.TestCase):
    def check(self, w, calls):
        given = ask(w, [(OP, 0) + call for call in calls])
        wrong = [(call, answer) for call, answer in zip(calls, given) if answer != (0, expected_op(*call, w))]
        self.assertEqual(len(given), len(calls))
        self.assertEqual(wrong[:5], [], w)

    def test_8_bits_every_pair(self):
        for choice in ALL_OPS:
            self.check(8, [(choice, a, b) for a in range(256) for b in range(256)])

    def test_edges(self):
        for w in (16, 32, 64):
            edges = edge_patterns(w)
            self.check(w, [(choice, a, b) for choice in ALL_OPS for a in edges for b in edges])

    def test_each_run(self):
        for w in (16, 32, 64):
            one = 2 ** (w - 2)
            calls = []
            for a in run_patterns(w):
                for choice in ALL_OPS:
                    calls += [(choice, a, one + 1), (choice, minus(a, w), 3 * one // 2), (choice, one + 1, a)]
            self.check(w, calls)

    def test_mixed_patterns(self):
        for w in (16, 32, 64):
            patterns = mixed_patterns(w, 600, 1)
            beside = mixed_patterns(w, 600, 2)
            self.check(w, [(choice, a, b) for choice in ALL_OPS for a, b in zip(patterns, beside)])

    def test_near_neighbours(self):
        # Quotients near 1 and differences near 0.
        for w in (16, 32, 64):
            calls = []
            for a in mixed_patterns(w, 60, 3):
                for step in (-3, -1, 1, 2):
                    b = (a + step) % 2 ** w
                    calls += [(DIVIDE, a, b), (SUBTRACT, a, b), (ADD, a, minus(b, w))]
            self.check(w, calls)

    def test_squares_and_their_neighbours(self):
        # Roots that come out, and roots just beside those.
        for w in (16, 32, 64):
            calls = []
            for k in range(1, 33):
                square = exactly(Fraction(k * k), w)
                calls += [(ROOT, square + step, 0) for step in (-1, 0, 1)]
            self.check(w, calls)
            for k in range(1, 33):
                self.assertEqual(expected_op(ROOT, exactly(k * k, w), 0, w), exactly(k, w))

    def test_quotients_and_roots_near_a_place_between_patterns(self):
        # The place times b, rounded, divided by b lies close by the place, on either side of it;
        # so does the root of the place's square, rounded.
        for w in (16, 32, 64):
            one = 2 ** (w - 2)
            calls = []
            for u in [one, one + 1, one + 2, one + 5] + mixed_patterns(w - 2, 40, 5):
                place = place_above(max(u, 1), w)
                square = rounded(place * place, w)
                calls += [(ROOT, max(square + step, 1), 0) for step in (-1, 0, 1)]
                for b in mixed_patterns(w, 5, 4):
                    a = rounded(place * (says(b, w) or 1), w)
                    calls += [(DIVIDE, (a + step) % 2 ** w, b) for step in (-1, 0, 1)]
            self.check(w, calls)

    def test_quotients_of_short_numbers_far_from_1(self):
        # Few bits on either side, and near 1 as many bits in the quotient as there are.
        for w in (16, 32, 64):
            top = greatest(w)
            for far in (range(1, 40), range(top - 39, top + 1)):
                self.check(w, [(DIVIDE, a, b) for a in far for b in far])


def near_quotients(w):
    """a, b and M: a divided by b is M / 2^(n + 1) and as little beside it as can be.

    M has n + 1 bits where patterns near 1 have n, so it's a place between two patterns. As M * b is
    1 or -1 modulo 2^(n + 1), the dividend a = M * b / 2^(n + 1) is off by no more than 1 / 2^(n + 1).
    """
    n = w - 4
    for b in range(2 ** n - 1, max(2 ** n - 80, 2 ** (n - 1)), -2):
        for rest in (1, -1):
            m = rest * pow(b, -1, 2 ** (n + 1)) % 2 ** (n + 1)
            if m >= 2 ** n:
                yield (m * b - rest) // 2 ** (n + 1), b, m


def near_roots(w):
    """x and M: the root of x, from 1 to 2, is M / 2^n and little beside it; M is as above."""
    n = w - 4
    for rest in (1, 9, 17, 25, 33, 41, 49, 57, -7, -15, -23, -31, -39, -47, -55, -63):
        m = 1
        for k in range(3, n + 3):
            # m * m is rest modulo 2^k already; one bit more makes it so modulo 2^(k + 1).
            if (m * m - rest) % 2 ** (k + 1):
                m += 2 ** (k - 1)
        m %= 2 ** (n + 1)
        for near in (m, 2 ** (n + 1) - m):
            if near >= 2 ** n and abs(rest) < near and (near * near - rest) % 2 ** (n + 2) == 0:
                yield Fraction(near * near - rest, 2 ** (2 * n)), near


class AsNearAPlaceAsCanBe(unittest.TestCase):
    def check_sides(self, w, rows):
        """Each row: a call, how its result compares with a place, and the place."""
        calls, expected, seen = [], [], set()
        for call, side, place in rows:
            u = (exactly(place, w + 1) - 1) // 2
            self.assertEqual(place_above(u, w), place)
            seen.add((side, u % 2))
            calls.append((OP, 0) + call)
            expected.append((0, u if side < 0 else u + 1))
        self.assertEqual(ask(w, calls), expected, w)
        if w > 8:
            self.assertEqual(seen, {(-1, 0), (-1, 1), (1, 0), (1, 1)})

    def test_quotients(self):
        for w in WIDTHS:
            rows = []
            for a, b, m in near_quotients(w):
                place, unit = Fraction(m, 2 ** (w - 3)), 2 ** (w - 5)
                call = (DIVIDE, exactly(Fraction(a, unit), w), exactly(Fraction(b, unit), w))
                rows.append((call, compare(Fraction(a, b), place), place))
            self.check_sides(w, rows)

    def test_roots(self):
        for w in WIDTHS:
            rows = []
            for x, m in near_roots(w):
                place = Fraction(m, 2 ** (w - 4))
                rows.append(((ROOT, exactly(x, w), 0), compare(x, place * place), place))
            self.check_sides(w, rows)


class ByHand(unittest.TestCase):
    def test_small_numbers(self):
        for w in WIDTHS:
            def number(x):
                return exactly(Fraction(x), w)
            rows = ((ADD, 1, 2, 3), (ADD, -1, 1, 0), (SUBTRACT, 1, 2, -1), (SUBTRACT, 2, 1, 1), (MULTIPLY, -2, 3, -6),
                    (MULTIPLY, 0, -3, 0), (DIVIDE, 1, 2, Fraction(1, 2)), (DIVIDE, 3, -2, Fraction(-3, 2)),
                    (DIVIDE, 0, -5, 0), (ROOT, 4, 7, 2), (ROOT, Fraction(9, 4), -1, Fraction(3, 2)), (ROOT, 0, 1, 0),
                    (ROOT, Fraction(1, 4), 0, Fraction(1, 2)), (NEAREST, 3, 1, 3), (NEAREST, 0, 1, 0))
            given = ask(w, [(OP, 0, choice, number(a), number(b)) for choice, a, b, result in rows])
            self.assertEqual(given, [(0, number(result)) for choice, a, b, result in rows], w)

    def test_no_result(self):
        for w in WIDTHS:
            one, none, top = 2 ** (w - 2), no_number(w), greatest(w)
            calls = [(OP, 0, DIVIDE, a, 0) for a in (0, 1, one, top, minus(1, w), none)]
            calls += [(OP, 0, ROOT, minus(a, w), b) for a in (1, one, top) for b in (0, one)]
            calls += [(OP, 0, choice, none, b) for choice in ALL_OPS for b in (0, 1, one, none)]
            calls += [(OP, 0, choice, a, none) for choice in (ADD, SUBTRACT, MULTIPLY, DIVIDE) for a in (0, 1, one)]
            self.assertEqual(ask(w, calls), [(0, none)] * len(calls))

    def test_b_plays_no_part_in_4_and_5(self):
        for w in WIDTHS:
            four, two = exactly(4, w), exactly(2, w)
            beside = (0, 1, four, no_number(w), greatest(w), 2 ** w - 1)
            self.assertEqual(ask(w, [(OP, 0, ROOT, four, b) for b in beside]), [(0, two)] * 6)
            self.assertEqual(ask(w, [(OP, 0, NEAREST, four, b) for b in beside]), [(0, four)] * 6)

    def test_5_at_halves(self):
        rows = ((Fraction(1, 2), 0), (Fraction(3, 2), 2), (Fraction(5, 2), 2), (Fraction(7, 2), 4), (Fraction(9, 2), 4),
                (Fraction(11, 2), 6), (Fraction(13, 2), 6), (Fraction(15, 2), 8), (Fraction(1, 4), 0),
                (Fraction(3, 4), 1), (Fraction(5, 4), 1), (Fraction(7, 4), 2), (Fraction(9, 16), 1),
                (Fraction(7, 16), 0), (1, 1), (7, 7), (16, 16))
        for w in WIDTHS:
            for sign in (1, -1):
                given = ask(w, [(OP, 0, NEAREST, exactly(sign * x, w), 0) for x, whole in rows])
                self.assertEqual(given, [(0, exactly(sign * whole, w)) for x, whole in rows], w)

    def test_5_of_the_ends(self):
        for w in WIDTHS:
            top = greatest(w)
            given = ask(w, [(OP, 0, NEAREST, a, 0) for a in (1, minus(1, w), top, minus(top, w), top - 1)])
            self.assertEqual(given, [(0, 0), (0, 0), (0, top), (0, minus(top, w)), (0, top - 1)])


class Refusals(unittest.TestCase):
    def test_other_ops(self):
        for w in WIDTHS:
            one = 2 ** (w - 2)
            given = ask(w, [(OP, 0, choice, one, one) for choice in OTHER_OPS])
            self.assertEqual(given, [REFUSED] * len(OTHER_OPS))

    def test_what_is_no_pattern(self):
        for w in (8, 16, 32):
            one = 2 ** (w - 2)
            for wrong in (2 ** w, 2 ** w + one, 2 ** 63, 2 ** 64 - 1):
                for choice in ALL_OPS:
                    given = line((BEGIN, 0, w), (OP, 0, choice, wrong, one), (OP, 0, choice, one, wrong),
                                 (OP, 0, choice, wrong, wrong), (OP, 0, choice, no_number(w), wrong), (OF, 0, 1))
                    self.assertEqual(given, [(0,)] + [REFUSED] * 4 + [(0, one)], (w, wrong, choice))

    def test_64_bits_hold_every_a_and_b(self):
        top = 2 ** 64 - 1
        given = ask(64, [(OP, 0, choice, top, top) for choice in ALL_OPS])
        self.assertEqual(given, [(0, expected_op(choice, top, top, 64)) for choice in ALL_OPS])

    def test_nothing_is_changed(self):
        for w in WIDTHS:
            for choice in OTHER_OPS:
                given = line((BEGIN, 1, w), (OP, 1, choice, 1, 1), (OP, 1, ADD, 1, 0), (OF, 1, 1))
                self.assertEqual(given, [(0,), REFUSED, (0, 1), (0, 2 ** (w - 2))])


if __name__ == "__main__":
    unittest.main()
