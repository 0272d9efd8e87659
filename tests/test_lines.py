"""Whole lines of calls, held against a reading of the document that keeps its own benches."""

import unittest
from fractions import Fraction
from random import Random

from helper import (BEGIN, CLEAR, DOUBLE, FMA, OF, OP, ORDER, PASS, REFUSED, SUM, TOTAL, UNDOUBLE, WHOLE, WIDTHS,
                    compare, double_says, expected_fma, expected_op, expected_whole, line, minus, nearest_double,
                    no_number, rounded, says)

# Where the patterns stand among a call's numbers behind o.
PATTERNS = {OP: (1, 2), FMA: (0, 1, 2), ORDER: (0, 1), WHOLE: (0,), PASS: (1,), DOUBLE: (0,), SUM: (0, 1)}


class Reading:
    """One bench as the document tells of it, with fractions."""

    def __init__(self):
        self.w = None
        self.exact = None

    def refuses(self, kind, numbers):
        if any(numbers[place] >= 2 ** self.w for place in PATTERNS.get(kind, ())):
            return True
        return (kind == OP and numbers[0] not in range(6) or kind == PASS and numbers[0] not in WIDTHS
                or kind == SUM and numbers[2] not in (0, 1))

    def answer(self, kind, numbers):
        if kind == BEGIN:
            if numbers[0] not in WIDTHS:
                return REFUSED
            self.w, self.exact = numbers[0], Fraction(0)
            return (0,)
        if self.refuses(kind, numbers):
            return REFUSED
        if kind in (CLEAR, SUM):
            self.exact = Fraction(0) if kind == CLEAR else self.added(*numbers)
            return (0,)
        if kind == ORDER:
            return (self.compared(*numbers),)
        return (0, self.number(kind, numbers))

    def added(self, a, b, sign):
        x, y = says(a, self.w), says(b, self.w)
        if self.exact is None or x is None or y is None:
            return None
        return self.exact - x * y if sign == 1 else self.exact + x * y

    def compared(self, a, b):
        x, y = says(a, self.w), says(b, self.w)
        if x is None or y is None:
            return (y is None) - (x is None)
        return compare(x, y)

    def number(self, kind, numbers):
        w = self.w
        if kind == OP:
            return expected_op(*numbers, w)
        if kind == FMA:
            return expected_fma(*numbers, w)
        if kind == OF:
            return rounded(Fraction(numbers[0]), w)
        if kind == WHOLE:
            return expected_whole(numbers[0], w)
        if kind == PASS:
            return rounded(says(numbers[1], w), numbers[0])
        if kind == DOUBLE:
            return nearest_double(says(numbers[0], w))
        if kind == UNDOUBLE:
            return rounded(double_says(numbers[0]), w)
        return rounded(self.exact, w)


def some_pattern(source, w):
    """Mostly a pattern of w bits, often one with many equal bits ahead; at times no number, or too great a one."""
    choice = source.randrange(60)
    if choice == 0:
        return no_number(w)
    if choice == 1:
        return min(2 ** w + source.getrandbits(8), 2 ** 64 - 1)
    pattern = source.getrandbits(w) >> source.randrange(1, w if choice < 30 else 6)
    pattern = pattern if source.getrandbits(1) else 2 ** (w - 1) - 1 - pattern
    return pattern if source.getrandbits(1) else minus(pattern, w)


def some_call(source, widths, kind):
    """A call of this kind of one of the benches, which have these widths."""
    o = source.getrandbits(1)
    one_in_ten = source.randrange(10) == 0
    a, b, c = (some_pattern(source, widths[o]) for index in range(3))
    if kind == BEGIN:
        return kind, o, source.choice(WIDTHS + (9, 0, -8))
    if kind == OP:
        return kind, o, source.choice((-1, 6, 2147483647)) if one_in_ten else source.randrange(6), a, b
    if kind == FMA:
        return kind, o, a, b, c
    if kind == ORDER:
        return kind, o, a, b
    if kind == OF:
        z = source.getrandbits(63) >> source.randrange(63)
        return kind, o, z if source.getrandbits(1) else -z - 1
    if kind == PASS:
        return kind, o, source.choice((0, 9, -16)) if one_in_ten else source.choice(WIDTHS), a
    if kind == UNDOUBLE:
        return kind, o, source.getrandbits(64) if one_in_ten else nearest_double(says(a % 2 ** widths[o], widths[o]))
    if kind == SUM:
        return kind, o, a, b, source.choice((2, -1)) if one_in_ten else source.getrandbits(1)
    return (kind, o) if kind in (CLEAR, TOTAL) else (kind, o, a)


def some_line(seed, first, second):
    """400 calls; begin and clear are seldom, so that sums grow."""
    source = Random(seed)
    widths = [first, second]
    calls = [(BEGIN, 0, first), (BEGIN, 1, second)]
    kinds = [BEGIN, CLEAR] + 4 * [OP, FMA, ORDER, OF, WHOLE, PASS, DOUBLE, UNDOUBLE] + 9 * [SUM, TOTAL]
    while len(calls) < 400:
        call = some_call(source, widths, source.choice(kinds))
        if call[0] == BEGIN and call[2] in WIDTHS:
            widths[call[1]] = call[2]
        calls.append(call)
    return calls


class Lines(unittest.TestCase):
    def test_mixed_lines(self):
        kinds, refused = set(), set()
        for seed in range(2):
            for first in WIDTHS:
                for second in WIDTHS:
                    calls = some_line(seed * 10000 + first * 100 + second, first, second)
                    readings = [Reading(), Reading()]
                    expected = [readings[call[1]].answer(call[0], call[2:]) for call in calls]
                    given = line(*calls)
                    wrong = [row for row in zip(calls, given, expected) if row[1] != row[2]]
                    self.assertEqual((len(given), wrong[:5]), (400, []), (seed, first, second))
                    kinds |= {call[0] for call in calls}
                    refused |= {call[0] for call, answer in zip(calls, given) if answer == REFUSED}
        self.assertEqual(kinds, set(range(12)))
        self.assertEqual(refused, {BEGIN, OP, FMA, ORDER, WHOLE, PASS, DOUBLE, SUM})


if __name__ == "__main__":
    unittest.main()
