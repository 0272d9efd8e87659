"""Point 1: begin."""

import unittest

from helper import BEGIN, OF, ORDER, REFUSED, WHOLE, WIDTHS, line, no_number

OTHER_WIDTHS = (0, 1, 2, 7, 9, 15, 17, 24, 31, 33, 48, 63, 65, 128, 256, 2147483647,
                -1, -8, -16, -32, -64, -2147483648)


def width_calls(o, w):
    """Calls that answer otherwise at every other width than w."""
    return (ORDER, o, 2 ** w - 1, 0), (OF, o, 1)


def width_answers(w):
    return [(-1,), (0, 2 ** (w - 2))]


class Begin(unittest.TestCase):
    def test_the_four_widths(self):
        for o in (0, 1):
            for w in WIDTHS:
                self.assertEqual(line((BEGIN, o, w), *width_calls(o, w)), [(0,)] + width_answers(w))

    def test_the_first_number_past_the_width_is_refused(self):
        for w in (8, 16, 32):
            given = line((BEGIN, 0, w), (WHOLE, 0, 2 ** w), (WHOLE, 0, no_number(w)))
            self.assertEqual(given, [(0,), REFUSED, (0, 2 ** 63)])

    def test_other_widths_are_refused(self):
        for o in (0, 1):
            for other in OTHER_WIDTHS:
                self.assertEqual(line((BEGIN, o, other)), [REFUSED], other)

    def test_refused_it_leaves_the_bench_as_it_was(self):
        for w in WIDTHS:
            for other in OTHER_WIDTHS:
                given = line((BEGIN, 1, w), (BEGIN, 1, other), *width_calls(1, w))
                self.assertEqual(given, [(0,), REFUSED] + width_answers(w), (w, other))

    def test_refused_first_it_may_be_begun_after_that(self):
        for w in WIDTHS:
            given = line((BEGIN, 0, 12), (BEGIN, 0, w), *width_calls(0, w))
            self.assertEqual(given, [REFUSED, (0,)] + width_answers(w))

    def test_begun_again(self):
        for first in WIDTHS:
            for second in WIDTHS:
                given = line((BEGIN, 0, first), *width_calls(0, first), (BEGIN, 0, second), *width_calls(0, second))
                self.assertEqual(given, [(0,)] + width_answers(first) + [(0,)] + width_answers(second))

    def test_both_benches_at_the_same_time(self):
        for first in WIDTHS:
            for second in WIDTHS:
                given = line((BEGIN, 0, first), (BEGIN, 1, second), *width_calls(0, first), *width_calls(1, second),
                             *width_calls(0, first), (BEGIN, 0, 9), *width_calls(1, second))
                self.assertEqual(given, [(0,), (0,)] + width_answers(first) + width_answers(second)
                                 + width_answers(first) + [REFUSED] + width_answers(second))


if __name__ == "__main__":
    unittest.main()
