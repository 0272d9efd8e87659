"""Point 6: pass."""

import unittest

from helper import (BEGIN, OF, ORDER, PASS, REFUSED, SUM, TOTAL, WIDTHS, ask, edge_patterns, exactly, greatest, line,
                    minus, mixed_patterns, no_number, place_above, rounded, run_patterns, says)

OTHER_WIDTHS = (0, 1, 2, 4, 7, 9, 12, 15, 17, 24, 31, 33, 48, 63, 65, 72, 128, 2147483647,
                -1, -8, -16, -32, -64, -2147483648)
WIDER = [(w, v) for w in WIDTHS for v in WIDTHS if w < v]


def some_patterns(w, count):
    runs = run_patterns(w)
    return edge_patterns(w) + runs + [minus(p, w) for p in runs] + mixed_patterns(w, count, 6)


def starts_of_places(v):
    """Patterns u of v bits of which each has a u + 1 above it."""
    if v <= 16:
        return list(range(1, greatest(v), 1 if v == 8 else 37)) + [greatest(v) - 1]
    near = run_patterns(v) + [p % greatest(v) for p in mixed_patterns(v, 200, 8)] + [greatest(v) - 1]
    return [u for p in near for u in (p, p + 1) if 0 < u < greatest(v)]


class Pass(unittest.TestCase):
    def check(self, w, v, patterns):
        given = ask(w, [(PASS, 0, v, a) for a in patterns])
        wrong = [(a, answer) for a, answer in zip(patterns, given) if answer != (0, rounded(says(a, w), v))]
        self.assertEqual(len(given), len(patterns))
        self.assertEqual(wrong[:5], [], (w, v))

    def check_there_and_back(self, w, v, patterns):
        there = [pattern for code, pattern in ask(w, [(PASS, 0, v, a) for a in patterns])]
        self.assertEqual([says(b, v) for b in there], [says(a, w) for a in patterns], (w, v))
        self.assertEqual(ask(v, [(PASS, 0, w, b) for b in there]), [(0, a) for a in patterns], (w, v))

    def test_each_width_to_each(self):
        for w in WIDTHS:
            for v in WIDTHS:
                self.check(w, v, some_patterns(w, 200))

    def test_one_to_each_by_hand(self):
        for w in WIDTHS:
            one = 2 ** (w - 2)
            given = ask(w, [(PASS, 0, v, a) for v in WIDTHS for a in (one, minus(one, w))])
            self.assertEqual(given, [(0, pattern) for v in WIDTHS for pattern in (2 ** (v - 2), 3 * 2 ** (v - 2))])

    def test_every_pattern_of_8_bits_to_each_and_back(self):
        for v in WIDTHS:
            self.check_there_and_back(8, v, list(range(256)))

    def test_every_pattern_of_16_bits_to_8(self):
        self.check(16, 8, list(range(65536)))

    def test_wider_and_back(self):
        for w, v in WIDER:
            self.check_there_and_back(w, v, some_patterns(w, 300))

    def test_to_its_own_width_nothing_is_changed(self):
        for w in WIDTHS:
            patterns = some_patterns(w, 100)
            self.assertEqual(ask(w, [(PASS, 0, w, a) for a in patterns]), [(0, a) for a in patterns])

    def test_0_and_no_number(self):
        for w in WIDTHS:
            given = ask(w, [(PASS, 0, v, a) for v in WIDTHS for a in (0, no_number(w))])
            self.assertEqual(given, [(0, pattern) for v in WIDTHS for pattern in (0, 2 ** (v - 1))])

    def test_at_and_beside_the_places_between_patterns(self):
        for v, w in WIDER:
            calls, expected = [], []
            for u in starts_of_places(v):
                # A pattern says the same with 0s behind it, so this is the pattern 2 u + 1 of v + 1 bits.
                place = (2 * u + 1) << (w - v - 1)
                self.assertEqual(says(place, w), place_above(u, v))
                for a, pattern in ((place - 1, u), (place, u + u % 2), (place + 1, u + 1)):
                    calls += [(PASS, 0, v, a), (PASS, 0, v, minus(a, w))]
                    expected += [(0, pattern), (0, minus(pattern, v))]
            self.assertEqual(ask(w, calls), expected, (v, w))

    def test_beyond_the_greatest_and_below_the_least(self):
        for v, w in WIDER:
            top, least = exactly(says(greatest(v), v), w), exactly(says(1, v), w)
            great = [top, top + 1, top + 2, greatest(w) - 1, greatest(w)]
            small = [least, least - 1, least // 2, least // 2 + 1, least // 2 - 1, 2, 1]
            calls = [(PASS, 0, v, a) for a in great + small]
            calls += [(PASS, 0, v, minus(a, w)) for a in great + small]
            expected = [(0, greatest(v))] * len(great) + [(0, 1)] * len(small)
            expected += [(0, minus(greatest(v), v))] * len(great) + [(0, 2 ** v - 1)] * len(small)
            self.assertEqual(ask(w, calls), expected, (v, w))

    def test_another_w_is_refused(self):
        for w in WIDTHS:
            one = 2 ** (w - 2)
            calls = [(PASS, 0, other, a) for other in OTHER_WIDTHS for a in (0, one, no_number(w))]
            self.assertEqual(ask(w, calls), [REFUSED] * len(calls))

    def test_what_is_no_pattern_is_refused(self):
        # The bench's width tells what a pattern is, not the one that's passed to.
        for w in (8, 16, 32):
            for wrong in (2 ** w, 2 ** w + 1, 2 ** 63, 2 ** 64 - 1):
                calls = [(PASS, 0, v, wrong) for v in WIDTHS + (0, 9)]
                self.assertEqual(ask(w, calls), [REFUSED] * len(calls), (w, wrong))
        for w in WIDTHS:
            self.assertEqual(ask(w, [(PASS, 0, v, 2 ** w - 1) for v in WIDTHS]),
                             [(0, minus(rounded(says(1, w), v), v)) for v in WIDTHS])

    def test_the_bench_stays_as_it_was(self):
        for w in WIDTHS:
            one, three = 2 ** (w - 2), exactly(3, w)
            for v in WIDTHS + (0, 9, 2147483647, -2147483648):
                given = line((BEGIN, 0, w), (BEGIN, 1, 16), (SUM, 0, three, one, 0), (SUM, 1, 2 ** 14, 2 ** 14, 1),
                             (PASS, 0, v, one), (PASS, 0, v, no_number(w)), (TOTAL, 0), (OF, 0, 1),
                             (ORDER, 0, 2 ** w - 1, 0), (TOTAL, 1), (OF, 1, 1))
                passed = [(0, 2 ** (v - 2)), (0, 2 ** (v - 1))] if v in WIDTHS else [REFUSED] * 2
                self.assertEqual(given, [(0,)] * 4 + passed + [(0, three), (0, one), (-1,), (0, 3 * 2 ** 14),
                                                               (0, 2 ** 14)], (w, v))
        for w in (8, 16, 32):
            three = exactly(3, w)
            given = line((BEGIN, 0, w), (SUM, 0, three, 2 ** (w - 2), 0), (PASS, 0, 64, 2 ** w), (TOTAL, 0), (OF, 0, 3))
            self.assertEqual(given, [(0,), (0,), REFUSED, (0, three), (0, three)])


if __name__ == "__main__":
    unittest.main()
