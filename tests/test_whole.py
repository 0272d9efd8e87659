"""Point 5: of and whole."""

import unittest
from fractions import Fraction

from helper import (BEGIN, OF, REFUSED, WHOLE, WIDTHS, ask, edge_patterns, exactly, expected_whole, greatest, line,
                    minus, mixed_patterns, no_number, place_above, rounded, run_patterns, says)

LEAST, MOST = -2 ** 63, 2 ** 63 - 1


def whole_places(w):
    """Whole numbers above 0 that are places between the patterns u and u + 1, with u."""
    found = []
    one = 2 ** (w - 2)
    for start in [one, greatest(w) - 9] + run_patterns(w) + [abs(p) % one + one for p in mixed_patterns(w, 60, 7)]:
        for u in range(start, min(start + 4, greatest(w) - 1)):
            place = place_above(max(u, 1), w)
            if place.denominator == 1 and place <= MOST:
                found.append((int(place), u))
    return found


class Of(unittest.TestCase):
    def check(self, w, numbers):
        given = ask(w, [(OF, 0, z) for z in numbers])
        wrong = [(z, answer) for z, answer in zip(numbers, given) if answer != (0, rounded(Fraction(z), w))]
        self.assertEqual(len(given), len(numbers))
        self.assertEqual(wrong[:5], [], w)

    def test_small_ones_by_hand(self):
        for w in WIDTHS:
            one = 2 ** (w - 2)
            given = ask(w, [(OF, 0, z) for z in (0, 1, -1, 2, -2, 4, 16)])
            self.assertEqual(given, [(0, 0), (0, one), (0, 3 * one), (0, one + 2 ** (w - 5)),
                                     (0, minus(one + 2 ** (w - 5), w)), (0, one + 2 ** (w - 4)),
                                     (0, one + 2 ** (w - 3))])

    def test_the_least_and_the_greatest(self):
        # 2^63 is past the greatest of 8 and of 16 bits; at 32 and 64 the run is 16 ones, and e is 3.
        given = [ask(w, [(OF, 0, LEAST), (OF, 0, MOST), (OF, 0, LEAST + 1)]) for w in WIDTHS]
        bits = "0" + "1" * 16 + "0" + "11"
        tops = [127, 32767, int(bits.ljust(32, "0"), 2), int(bits.ljust(64, "0"), 2)]
        for w, top, part in zip(WIDTHS, tops, given):
            self.assertEqual(part, [(0, minus(top, w)), (0, top), (0, minus(top, w))], w)
        self.assertEqual([says(top, w) for w, top in zip(WIDTHS, tops)],
                         [2 ** 24, 2 ** 56, 2 ** 63, 2 ** 63])

    def test_every_small_number(self):
        for w in WIDTHS:
            self.check(w, list(range(-2100, 2101)) if w < 64 else list(range(-300, 301)))

    def test_around_powers_of_two(self):
        for w in WIDTHS:
            near = [2 ** power + step for power in range(63) for step in (-2, -1, 0, 1, 2)]
            self.check(w, [z for z in near + [-z for z in near]] + [LEAST, LEAST + 1, MOST - 1, MOST])

    def test_at_and_around_the_places_between_patterns(self):
        for w in WIDTHS:
            calls, expected = [], []
            found = whole_places(w)
            for place, u in found:
                even = u if u % 2 == 0 else u + 1
                below = u if place - 1 >= says(u, w) else rounded(Fraction(place - 1), w)
                for z, pattern in ((place - 1, below), (place, even), (place + 1, u + 1)):
                    if z <= MOST:
                        calls += [(OF, 0, z), (OF, 0, -z)]
                        expected += [(0, pattern), (0, minus(pattern, w))]
            self.assertEqual({u % 2 for place, u in found}, {0, 1}, w)
            self.assertEqual(ask(w, calls), expected, w)

    def test_past_the_greatest_of_8_and_16_bits(self):
        for w, power in ((8, 24), (16, 56)):
            top = greatest(w)
            place = 2 ** (power - 2)
            given = ask(w, [(OF, 0, z) for z in (place - 1, place, place + 1, 2 ** power - 1, 2 ** power,
                                                 2 ** power + 1, -2 ** power - 1)])
            self.assertEqual(given, [(0, top - 1)] * 2 + [(0, top)] * 4 + [(0, minus(top, w))])


class Whole(unittest.TestCase):
    def check(self, w, patterns):
        given = ask(w, [(WHOLE, 0, a) for a in patterns])
        wrong = [(a, answer) for a, answer in zip(patterns, given) if answer != (0, expected_whole(a, w))]
        self.assertEqual(len(given), len(patterns))
        self.assertEqual(wrong[:5], [], w)

    def test_8_bits_every_pattern(self):
        self.check(8, list(range(256)))

    def test_16_bits_every_pattern(self):
        self.check(16, list(range(65536)))

    def test_edges_runs_and_mixed_patterns(self):
        for w in WIDTHS:
            runs = run_patterns(w)
            self.check(w, edge_patterns(w) + runs + [minus(p, w) for p in runs] + mixed_patterns(w, 500, 1))

    def test_halves(self):
        rows = ((Fraction(1, 2), 0), (Fraction(3, 2), 2), (Fraction(5, 2), 2), (Fraction(7, 2), 4), (Fraction(9, 2), 4),
                (Fraction(11, 2), 6), (Fraction(1, 4), 0), (Fraction(3, 4), 1), (Fraction(9, 16), 1),
                (Fraction(7, 16), 0), (0, 0), (1, 1), (2, 2), (16, 16))
        for w in WIDTHS:
            for sign in (1, -1):
                given = ask(w, [(WHOLE, 0, exactly(sign * x, w)) for x, whole in rows])
                self.assertEqual(given, [(0, sign * whole % 2 ** 64) for x, whole in rows], w)

    def test_halves_of_large_numbers(self):
        for w, power in ((16, 5), (32, 16), (64, 40)):
            for step in range(4):
                x = 2 ** power + step + Fraction(1, 2)
                given = ask(w, [(WHOLE, 0, exactly(x, w)), (WHOLE, 0, exactly(-x, w))])
                whole = 2 ** power + (step if step % 2 == 0 else step + 1)
                self.assertEqual(given, [(0, whole), (0, 2 ** 64 - whole)])

    def test_below_0_it_is_modulo_2_to_the_64(self):
        for w in WIDTHS:
            given = ask(w, [(WHOLE, 0, exactly(-z, w)) for z in (1, 2, 3, 16, 1024)])
            self.assertEqual(given, [(0, 2 ** 64 - z) for z in (1, 2, 3, 16, 1024)])

    def test_no_number_and_the_ends(self):
        for w in WIDTHS:
            given = ask(w, [(WHOLE, 0, no_number(w)), (WHOLE, 0, 1), (WHOLE, 0, minus(1, w))])
            self.assertEqual(given, [(0, 2 ** 63), (0, 0), (0, 0)])
        for w, most in ((8, 2 ** 24), (16, 2 ** 56)):
            given = ask(w, [(WHOLE, 0, greatest(w)), (WHOLE, 0, minus(greatest(w), w))])
            self.assertEqual(given, [(0, most), (0, 2 ** 64 - most)])

    def test_outside(self):
        for w in (32, 64):
            edge = exactly(2 ** 63, w)
            outside = [edge, edge + 1, edge + 2, exactly(2 ** 64, w), exactly(2 ** 65, w), greatest(w) - 1, greatest(w)]
            outside += [minus(p, w) for p in outside]
            self.assertEqual(ask(w, [(WHOLE, 0, a) for a in outside]), [(0, 2 ** 63)] * len(outside))
            inside = int(says(edge - 1, w))
            self.assertEqual(inside, 2 ** 63 - (2 ** 50 if w == 32 else 2 ** 18))
            self.assertEqual(ask(w, [(WHOLE, 0, edge - 1), (WHOLE, 0, minus(edge - 1, w))]),
                             [(0, inside), (0, 2 ** 64 - inside)])

    def test_what_is_no_pattern_is_refused(self):
        for w in (8, 16, 32):
            one = 2 ** (w - 2)
            for wrong in (2 ** w, 2 ** w + one, 2 ** 63, 2 ** 64 - 1):
                given = line((BEGIN, 0, w), (WHOLE, 0, wrong), (WHOLE, 0, one), (OF, 0, 1), (WHOLE, 0, 2 ** w - 1))
                self.assertEqual(given, [(0,), REFUSED, (0, 1), (0, one), (0, 0)], (w, wrong))

    def test_of_and_whole_undo_one_another(self):
        for w in WIDTHS:
            numbers = [0, 1, -1, 7, -7, 12, -12] + [sign * 2 ** k for k in range(1, 12) for sign in (1, -1)]
            given = ask(w, [(OF, 0, z) for z in numbers])
            given = ask(w, [(WHOLE, 0, pattern) for code, pattern in given])
            self.assertEqual(given, [(0, z % 2 ** 64) for z in numbers])


if __name__ == "__main__":
    unittest.main()
