"""Rounding: the ends, numbers that have a pattern, and the places between two patterns."""

import unittest
from fractions import Fraction

from helper import (ADD, DIVIDE, FMA, MULTIPLY, OP, SUBTRACT, WIDTHS, ask, exactly, greatest, minus, place_above,
                    rounded, says)


def fraction_bits(power, w):
    """How many bits of f a number from 2^power on has; below 0 where bits of e are missing."""
    r = power // 4
    return w - 1 - (r + 2 if r >= 0 else 1 - r) - 2


def factors_of_place(power, w):
    """Factors from 1 to 2, the product of which, times 2^power, has one bit of f too many."""
    bits = fraction_bits(power, w)
    if bits < 0:
        # The bit too many is one of e: there's a place only where it is 1, and the others 0.
        is_place = power % 2 == 1 if bits == -1 else power % 4 == 2
        return [(Fraction(1), Fraction(1))] if is_place else []
    found = []
    for i in sorted({0, 1, 2, bits // 2}):
        j = max(bits + 1 - i, 0)
        found.append((1 + Fraction(1, 2 ** i) if i else Fraction(1), 1 + Fraction(1, 2 ** j)))
    return [(x, y) for x, y in found if x * y < 2]


def places(w):
    """Pairs of patterns a, b and a pattern u: a times b is the place between u and u + 1."""
    end = 4 * (w - 2)
    for power in range(-end + 1, end):
        for x, y in factors_of_place(power, w):
            half = power // 2
            x, y = x * Fraction(2) ** half, y * Fraction(2) ** (power - half)
            if says(rounded(x, w), w) == x and says(rounded(y, w), w) == y and x * y < 2 ** end:
                yield exactly(x, w), exactly(y, w), (exactly(x * y, w + 1) - 1) // 2


class Places(unittest.TestCase):
    def test_below_at_and_above(self):
        for w in WIDTHS:
            calls, expected, seen = [], [], set()
            for a, b, u in places(w):
                self.assertEqual(says(a, w) * says(b, w), place_above(u, w))
                even = u if u % 2 == 0 else u + 1
                seen.add((u % 2, fraction_bits_left(u, w)))
                minus_a, minus_b = minus(a, w), minus(b, w)
                for c, pattern in ((minus(1, w), u), (0, even), (1, u + 1)):
                    calls += [(FMA, 0, a, b, c), (FMA, 0, minus_a, minus_b, c),
                              (FMA, 0, minus_a, b, minus(c, w)), (FMA, 0, a, minus_b, minus(c, w))]
                    expected += [(0, pattern)] * 2 + [(0, minus(pattern, w))] * 2
                calls += [(OP, 0, MULTIPLY, a, b), (OP, 0, MULTIPLY, minus_a, b)]
                expected += [(0, even), (0, minus(even, w))]
            self.assertEqual(ask(w, calls), expected, w)
            for parity in (0, 1):
                for left in ("none of e", "one of e", "none of f", "some of f"):
                    self.assertIn((parity, left), seen, w)

    def check_times(self, w, start, table):
        calls, expected = [], []
        for number, pattern in table:
            factor = exactly(number, w)
            calls += [(OP, 0, MULTIPLY, start, factor), (OP, 0, MULTIPLY, minus(start, w), factor)]
            expected += [(0, pattern), (0, minus(pattern, w))]
        self.assertEqual(ask(w, calls), expected, w)

    def test_long_runs_of_1s_turn_where_the_longer_pattern_lies(self):
        # Between 2^p and 2^(p + 4), the greatest, it's 2^(p + 2), though halfway is above 2^(p + 3).
        for w in WIDTHS:
            top = greatest(w)
            self.assertEqual(says(top, w), 16 * says(top - 1, w))
            self.check_times(w, top - 1, (
                (1, top - 1), (2, top - 1), (3, top - 1), (Fraction(15, 4), top - 1), (4, top - 1),
                (Fraction(9, 2), top), (5, top), (8, top), (9, top), (15, top), (16, top), (20, top)))

    def test_long_runs_of_0s_turn_where_the_longer_pattern_lies(self):
        # Between 2^-(p + 4), the least, and 2^-p it's 2^-(p + 2).
        for w in WIDTHS:
            self.assertEqual(says(2, w), 16 * says(1, w))
            self.check_times(w, 2, (
                (Fraction(1, 32), 1), (Fraction(1, 16), 1), (Fraction(1, 8), 1), (Fraction(15, 64), 1),
                (Fraction(1, 4), 2), (Fraction(9, 32), 2), (Fraction(1, 2), 2), (1, 2), (2, 2), (Fraction(9, 4), 3)))


def fraction_bits_left(u, w):
    number = says(u, w)
    power = 0
    while number >= 2:
        number, power = number / 2, power + 1
    while number < 1:
        number, power = number * 2, power - 1
    bits = fraction_bits(power, w)
    return {-2: "none of e", -1: "one of e", 0: "none of f"}.get(bits, "some of f")


class Ends(unittest.TestCase):
    def test_no_less_than_the_greatest(self):
        for w in WIDTHS:
            top, below = greatest(w), minus(greatest(w), w)
            one = 2 ** (w - 2)
            given = ask(w, [(OP, 0, ADD, top, 0), (OP, 0, ADD, top, 1), (OP, 0, ADD, top, top),
                            (OP, 0, MULTIPLY, top, top), (OP, 0, MULTIPLY, top, one + 1), (OP, 0, DIVIDE, top, 1),
                            (OP, 0, DIVIDE, one, 1), (OP, 0, SUBTRACT, top, below), (OP, 0, SUBTRACT, top, 1),
                            (FMA, 0, top, top, top), (FMA, 0, top, top, below)])
            self.assertEqual(given, [(0, top)] * 11)
            given = ask(w, [(OP, 0, ADD, below, 0), (OP, 0, SUBTRACT, below, 1), (OP, 0, ADD, below, below),
                            (OP, 0, MULTIPLY, top, below), (OP, 0, DIVIDE, below, 1), (FMA, 0, top, below, top)])
            self.assertEqual(given, [(0, below)] * 6)

    def test_no_greater_than_the_least(self):
        for w in WIDTHS:
            top, least_below = greatest(w), minus(1, w)
            one = 2 ** (w - 2)
            given = ask(w, [(OP, 0, ADD, 1, 0), (OP, 0, MULTIPLY, 1, 1), (OP, 0, MULTIPLY, 1, one - 1),
                            (OP, 0, DIVIDE, 1, top), (OP, 0, DIVIDE, one, top), (OP, 0, DIVIDE, 1, one + 1),
                            (OP, 0, MULTIPLY, least_below, least_below), (FMA, 0, 1, 1, 0), (FMA, 0, 1, 1, 1),
                            (FMA, 0, least_below, 1, 1)])
            self.assertEqual(given, [(0, 1)] * 10)
            given = ask(w, [(OP, 0, MULTIPLY, 1, least_below), (OP, 0, DIVIDE, least_below, top),
                            (FMA, 0, 1, least_below, 0), (FMA, 0, 1, 1, least_below)])
            self.assertEqual(given, [(0, least_below)] * 4)


if __name__ == "__main__":
    unittest.main()
