"""Point 7: double and undouble."""

import struct
import unittest
from fractions import Fraction
from random import Random

from helper import (BEGIN, DOUBLE, DOUBLE_INFINITY, DOUBLE_NO_NUMBER, DOUBLE_SIGN, OF, REFUSED, SUM, TOTAL, UNDOUBLE,
                    WIDTHS, ask, double_says, edge_patterns, exactly, greatest, line, minus, mixed_patterns,
                    nearest_double, no_number, place_above, rounded, run_patterns, says)

ONE = 0x3FF0000000000000


def power_bits(power):
    """The bits of the double 2^power."""
    return (1023 + power) * 2 ** 52


def some_patterns(w, count):
    runs = run_patterns(w)
    return edge_patterns(w) + runs + [minus(p, w) for p in runs] + mixed_patterns(w, count, 9)


def struct_bits(x):
    return struct.unpack(">Q", struct.pack(">d", x))[0]


def long_patterns():
    """Patterns of 64 bits with 53 to 59 places: the bits ahead of the places, and how many these are."""
    for k in range(1, 8):
        for run in ("0" * k + "1", "1" * k + "0"):
            for e in ("00", "01", "10", "11"):
                yield int(run + e, 2), 60 - k


class Double(unittest.TestCase):
    def check(self, w, patterns):
        given = ask(w, [(DOUBLE, 0, a) for a in patterns])
        wrong = [(a, answer) for a, answer in zip(patterns, given) if answer != (0, nearest_double(says(a, w)))]
        self.assertEqual(len(given), len(patterns))
        self.assertEqual(wrong[:5], [], w)

    def test_by_hand(self):
        for w in WIDTHS:
            one = 2 ** (w - 2)
            rows = ((0, 0), (no_number(w), 9221120237041090560), (one, ONE), (3 * one, 0xBFF0000000000000),
                    (exactly(2, w), 0x4000000000000000), (exactly(-2, w), 0xC000000000000000),
                    (exactly(Fraction(1, 2), w), 0x3FE0000000000000), (exactly(Fraction(3, 2), w), 0x3FF8000000000000),
                    (exactly(Fraction(-5, 4), w), 0xBFF4000000000000), (exactly(3, w), 0x4008000000000000))
            self.assertEqual(ask(w, [(DOUBLE, 0, a) for a, bits in rows]), [(0, bits) for a, bits in rows])
        self.assertEqual(0x7FF8000000000000, DOUBLE_NO_NUMBER)

    def test_the_least_and_the_greatest(self):
        for w in WIDTHS:
            most = 4 * (w - 2)
            given = ask(w, [(DOUBLE, 0, a) for a in (1, 2 ** w - 1, greatest(w), minus(greatest(w), w))])
            self.assertEqual(given, [(0, power_bits(-most)), (0, DOUBLE_SIGN + power_bits(-most)),
                                     (0, power_bits(most)), (0, DOUBLE_SIGN + power_bits(most))])

    def test_8_bits_every_pattern(self):
        self.check(8, list(range(256)))

    def test_edges_runs_and_mixed_patterns(self):
        for w in WIDTHS:
            self.check(w, some_patterns(w, 500))

    def test_up_to_32_bits_each_is_exact(self):
        for w, patterns in ((8, range(256)), (16, range(0, 65536, 3)), (32, some_patterns(32, 1500))):
            given = ask(w, [(DOUBLE, 0, a) for a in patterns])
            for a, answer in zip(patterns, given):
                if a != no_number(w):
                    self.assertEqual(double_says(answer[1]), says(a, w), (w, a))

    def test_as_pythons_own_doubles(self):
        for w in WIDTHS:
            patterns = [a for a in some_patterns(w, 1500) if a != no_number(w)]
            expected = [(0, struct_bits(float(says(a, w)))) for a in patterns]
            self.assertEqual(ask(w, [(DOUBLE, 0, a) for a in patterns]), expected, w)

    def test_places_that_do_not_fit(self):
        for ahead, places in long_patterns():
            half = 2 ** (places - 53)
            start = ahead << places
            base = nearest_double(says(start, 64))
            rows = []
            for bits in (0, 1, 2, 3, 2 ** 51, 2 ** 51 + 1, 2 ** 52 - 2, 2 ** 52 - 1):
                for rest in (0, 1, half - 1, half, half + 1, 2 * half - 1):
                    up = bits % 2 if rest == half else int(rest > half)
                    rows.append((start + bits * 2 * half + rest, bits + up))
            # Behind 52 ones in the bits comes the next power of 2, which has the next exponent and no places.
            calls = [(DOUBLE, 0, a) for a, bits in rows] + [(DOUBLE, 0, minus(a, 64)) for a, bits in rows]
            expected = [(0, base + bits) for a, bits in rows] + [(0, DOUBLE_SIGN + base + bits) for a, bits in rows]
            self.assertEqual(ask(64, calls), expected, (ahead, places))
            self.check(64, [a for a, bits in rows])

    def test_rounding_that_carries_over_by_hand(self):
        one, two = 2 ** 62, 2 ** 62 + 2 ** 59
        calls = [(DOUBLE, 0, a) for a in (two - 1, minus(two - 1, 64), one - 1, two - 64, two - 65)]
        self.assertEqual(ask(64, calls), [(0, 0x4000000000000000), (0, 0xC000000000000000), (0, ONE),
                                          (0, 0x4000000000000000), (0, 0x3FFFFFFFFFFFFFFF)])

    def test_what_is_no_pattern_is_refused(self):
        for w in (8, 16, 32):
            one = 2 ** (w - 2)
            for wrong in (2 ** w, 2 ** w + one, 2 ** 63, 2 ** 64 - 1):
                given = line((BEGIN, 0, w), (SUM, 0, one, one, 0), (DOUBLE, 0, wrong), (DOUBLE, 0, one), (OF, 0, 1),
                             (TOTAL, 0), (DOUBLE, 0, 2 ** w - 1))
                self.assertEqual(given, [(0,), (0,), REFUSED, (0, ONE), (0, one), (0, one),
                                         (0, DOUBLE_SIGN + power_bits(-4 * (w - 2)))], (w, wrong))


def beside(bits):
    return [bits - 1, bits, bits + 1]


def fitting_places(w):
    """Places between the patterns u and u + 1 that are doubles: u, and the double's bits."""
    near = list(range(1, 127)) if w == 8 else run_patterns(w) + mixed_patterns(w, 300, 4)
    found = []
    for p in near:
        for u in (p % greatest(w), p % greatest(w) + 1):
            if 0 < u < greatest(w):
                bits = nearest_double(place_above(u, w))
                if double_says(bits) == place_above(u, w):
                    found.append((u, bits))
    return found


def mixed_doubles(count):
    source = Random(7)
    anywhere = [source.getrandbits(64) for index in range(count)]
    near = [source.randrange(power_bits(-260), power_bits(260)) for index in range(count)]
    return anywhere + near + [DOUBLE_SIGN + bits for bits in near]


class Undouble(unittest.TestCase):
    def check(self, w, doubles):
        given = ask(w, [(UNDOUBLE, 0, bits) for bits in doubles])
        wrong = [(bits, answer) for bits, answer in zip(doubles, given) if answer != (0, rounded(double_says(bits), w))]
        self.assertEqual(len(given), len(doubles))
        self.assertEqual(wrong[:5], [], w)

    def both_signs(self, w, doubles, pattern):
        given = ask(w, [(UNDOUBLE, 0, bits + sign) for sign in (0, DOUBLE_SIGN) for bits in doubles])
        self.assertEqual(given, [(0, pattern)] * len(doubles) + [(0, minus(pattern, w))] * len(doubles), w)

    def test_ones_by_hand(self):
        for w in WIDTHS:
            self.both_signs(w, [ONE], 2 ** (w - 2))
            self.both_signs(w, [0x4000000000000000], exactly(2, w))
            self.both_signs(w, [0x3FF8000000000000], exactly(Fraction(3, 2), w))
            self.both_signs(w, [0x4008000000000000], exactly(3, w))

    def test_both_zeros(self):
        for w in WIDTHS:
            self.assertEqual(ask(w, [(UNDOUBLE, 0, 0), (UNDOUBLE, 0, DOUBLE_SIGN)]), [(0, 0)] * 2)

    def test_infinities_and_what_is_not_a_number(self):
        for w in WIDTHS:
            places = (0, 1, 2, 12345, 2 ** 32, 2 ** 51 - 1, 2 ** 51, 2 ** 51 + 1, 2 ** 52 - 2, 2 ** 52 - 1)
            self.both_signs(w, [DOUBLE_INFINITY + bits for bits in places], no_number(w))

    def test_the_greatest_and_the_least(self):
        for w in WIDTHS:
            top, least = power_bits(4 * (w - 2)), power_bits(-4 * (w - 2))
            self.both_signs(w, [DOUBLE_INFINITY - 1, DOUBLE_INFINITY - 2, power_bits(1023), top + 1, top], greatest(w))
            self.both_signs(w, [1, 2, 3, least - 1, least, least // 2], 1)

    def test_below_the_normal_ones(self):
        for w in WIDTHS:
            self.both_signs(w, [1, 2 ** 51, 2 ** 52 - 1, 2 ** 52, 2 ** 52 + 1, 2 * 2 ** 52], 1)

    def test_at_and_beside_the_places_between_patterns(self):
        for w in WIDTHS:
            calls, expected = [], []
            found = fitting_places(w)
            for u, place in found:
                for bits, pattern in zip(beside(place), (u, u + u % 2, u + 1)):
                    calls += [(UNDOUBLE, 0, bits), (UNDOUBLE, 0, DOUBLE_SIGN + bits)]
                    expected += [(0, pattern), (0, minus(pattern, w))]
            self.assertGreater(len(found), 100, w)
            self.assertEqual({u % 2 for u, bits in found}, {0, 1}, w)
            self.assertEqual(len(calls), 6 * len(found))
            self.assertEqual(ask(w, calls), expected, w)

    def test_mixed_doubles(self):
        for w in WIDTHS:
            self.check(w, mixed_doubles(300))

    def test_around_powers_of_two(self):
        for w in WIDTHS:
            powers = range(-254, 255, 1 if w == 64 else 3)
            self.check(w, [bits for power in powers for bits in beside(power_bits(power))])

    def test_of_its_double_a_pattern_comes_back(self):
        for w in WIDTHS:
            patterns = list(range(256)) if w == 8 else some_patterns(w, 500)
            # Of 64 bits those alone whose places all fit a double's.
            patterns = [a for a in patterns if double_says(nearest_double(says(a, w))) == says(a, w)]
            doubles = [bits for code, bits in ask(w, [(DOUBLE, 0, a) for a in patterns])]
            self.assertEqual(ask(w, [(UNDOUBLE, 0, bits) for bits in doubles]), [(0, a) for a in patterns], w)
            self.assertGreater(len(patterns), 200, w)

    def test_at_64_bits_doubles_near_1_come_back(self):
        doubles = [bits for bits in mixed_doubles(600) if abs((bits % DOUBLE_SIGN >> 52) - 1023) < 28]
        patterns = [pattern for code, pattern in ask(64, [(UNDOUBLE, 0, bits) for bits in doubles])]
        self.assertEqual(ask(64, [(DOUBLE, 0, a) for a in patterns]), [(0, bits) for bits in doubles])
        self.assertGreater(len(doubles), 50)

    def test_the_bench_stays_as_it_was(self):
        for w in WIDTHS:
            one, three = 2 ** (w - 2), exactly(3, w)
            given = line((BEGIN, 0, w), (SUM, 0, three, one, 0), (UNDOUBLE, 0, DOUBLE_INFINITY),
                         (DOUBLE, 0, no_number(w)), (UNDOUBLE, 0, ONE), (DOUBLE, 0, one), (TOTAL, 0), (OF, 0, 1))
            self.assertEqual(given, [(0,), (0,), (0, no_number(w)), (0, DOUBLE_NO_NUMBER), (0, one), (0, ONE),
                                     (0, three), (0, one)])


if __name__ == "__main__":
    unittest.main()
