"""What patterns say, by what the calls answer of them."""

import unittest
from fractions import Fraction

from helper import (ADD, DIVIDE, MULTIPLY, NEAREST, OF, OP, ORDER, WHOLE, WIDTHS, ask, exactly, greatest, minus,
                    no_number, run_patterns, says)

# Read by hand: the w - 1 lower bits, and the number.
BY_HAND_8 = (
    ("1000000", Fraction(1)),
    ("1000001", Fraction(9, 8)),
    ("1000111", Fraction(15, 8)),
    ("1001000", Fraction(2)),
    ("1011111", Fraction(15)),
    ("1100000", Fraction(16)),
    ("1100111", Fraction(16 * 2 * 7, 4)),
    ("0111111", Fraction(15, 16)),
    ("0100000", Fraction(1, 16)),
    ("0011111", Fraction(7, 4) * Fraction(1, 32)),
    # no bit of f is left
    ("1111001", Fraction(2 ** 13)),
    ("1111011", Fraction(2 ** 15)),
    ("0000111", Fraction(1, 2 ** 13)),
    ("0000101", Fraction(1, 2 ** 15)),
    # one bit of e is left
    ("1111100", Fraction(2 ** 16)),
    ("1111101", Fraction(2 ** 18)),
    ("0000010", Fraction(1, 2 ** 20)),
    ("0000011", Fraction(1, 2 ** 18)),
    # no bit of e is left
    ("1111110", Fraction(2 ** 20)),
    ("0000001", Fraction(1, 2 ** 24)),
    # the run takes all the bits
    ("1111111", Fraction(2 ** 24)),
)


def ends(w):
    """Patterns at both ends, with their numbers as powers of two, read by hand."""
    top = greatest(w)
    high = 4 * (w - 2)
    return ((top, high), (top - 1, high - 4), (top - 2, high - 6), (top - 3, high - 8),
            (top - 4, high - 9), (top - 5, high - 10), (top - 6, high - 11), (top - 7, high - 12),
            (1, -high), (2, 4 - high), (3, 6 - high), (4, 8 - high),
            (5, 9 - high), (6, 10 - high), (7, 11 - high), (8, 12 - high))


class Reading(unittest.TestCase):
    def test_the_reading_with_fractions_is_as_by_hand(self):
        for bits, number in BY_HAND_8:
            self.assertEqual(says(int(bits, 2), 8), number, bits)
        for w in WIDTHS:
            for pattern, power in ends(w):
                self.assertEqual(says(pattern, w), Fraction(2) ** power, (w, pattern))

    def test_patterns_with_a_sign_are_in_order(self):
        in_order = [says(p % 256, 8) for p in range(-127, 128)]
        self.assertEqual(in_order, sorted(set(in_order)))
        for w in WIDTHS:
            numbers = [says(p, w) for p in run_patterns(w)]
            self.assertEqual(numbers, sorted(set(numbers)))


def sixteen_bits_of(a):
    """What says(a, 8) is, as a call of 16 bits: every number of 8 bits has such a pattern."""
    return exactly(says(a, 8), 16)


class EveryPatternOf8Bits(unittest.TestCase):
    def test_whole_numbers(self):
        patterns = [p for p in range(256) if p != no_number(8) and says(p, 8).denominator == 1]
        given = ask(8, [(WHOLE, 0, p) for p in patterns])
        self.assertEqual(given, [(0, int(says(p, 8)) % 2 ** 64) for p in patterns])
        given = ask(8, [(OF, 0, int(says(p, 8))) for p in patterns])
        self.assertEqual(given, [(0, p) for p in patterns])

    def test_fractions_of_two_whole_numbers(self):
        # At 16 bits numerator and denominator have patterns, and their quotient has one.
        for p in range(256):
            if p == no_number(8):
                continue
            number = says(p, 8)
            top, bottom = exactly(number.numerator, 16), exactly(number.denominator, 16)
            self.assertEqual(ask(16, [(OP, 0, DIVIDE, top, bottom)]), [(0, sixteen_bits_of(p))], p)

    def test_scaled_up_to_a_whole_number(self):
        # Times the denominator, a power of two, each is a whole number that 8 bits can say.
        for p in range(256):
            if p == no_number(8):
                continue
            number = says(p, 8)
            bottom = exactly(number.denominator, 8) if number.denominator <= 2 ** 10 else None
            if bottom is not None:
                product = exactly(number.numerator, 8)
                self.assertEqual(ask(8, [(OP, 0, MULTIPLY, p, bottom)]), [(0, product)], p)

    def test_no_number_is_one_pattern_alone(self):
        given = ask(8, [(OP, 0, MULTIPLY, p, 64) for p in range(256)])
        self.assertEqual(given, [(0, p) for p in range(256)])
        given = ask(8, [(OP, 0, NEAREST, p, 0) for p in range(256)])
        self.assertEqual([p for p in range(256) if given[p] == (0, 128)], [128])


class PatternsOfEachWidth(unittest.TestCase):
    def test_the_ends_as_products(self):
        # 2^i times 2^j, both near the middle of the range, gives what stands at the end.
        for w in WIDTHS:
            for pattern, power in ends(w):
                half = power // 2
                a, b = exactly(Fraction(2) ** half, w), exactly(Fraction(2) ** (power - half), w)
                minus_a = minus(a, w)
                given = ask(w, [(OP, 0, MULTIPLY, a, b), (OP, 0, MULTIPLY, minus_a, b), (OP, 0, DIVIDE, pattern, a)])
                self.assertEqual(given, [(0, pattern), (0, minus(pattern, w)), (0, b)], (w, pattern))

    def test_each_run_is_read_and_written_again(self):
        for w in WIDTHS:
            patterns = run_patterns(w)
            patterns += [minus(p, w) for p in patterns] + [0, no_number(w)]
            given = ask(w, [(OP, 0, ADD, p, 0) for p in patterns])
            self.assertEqual(given, [(0, p) for p in patterns])

    def test_each_run_that_says_a_whole_number(self):
        for w in WIDTHS:
            patterns = [p for p in run_patterns(w) if says(p, w).denominator == 1 and says(p, w) < 2 ** 63]
            patterns += [minus(p, w) for p in patterns]
            self.assertEqual(ask(w, [(WHOLE, 0, p) for p in patterns]),
                             [(0, int(says(p, w)) % 2 ** 64) for p in patterns])

    def test_each_run_against_its_turned_number(self):
        # A power of two and 1 divided by it are told by runs of either bit.
        for w in WIDTHS:
            for power in range(4 * (w - 4)):
                up, down = exactly(Fraction(2) ** power, w), exactly(Fraction(1, 2 ** power), w)
                one = 2 ** (w - 2)
                given = ask(w, [(OP, 0, DIVIDE, one, up), (OP, 0, DIVIDE, one, down), (ORDER, 0, down, up)])
                self.assertEqual(given, [(0, down), (0, up), (-1 if power else 0,)], (w, power))


if __name__ == "__main__":
    unittest.main()
