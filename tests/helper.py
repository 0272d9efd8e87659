"""What the document says, read anew with fractions, and the calls that ask the program for it."""

from fractions import Fraction
from functools import lru_cache
from random import Random

from taperbench.benches import answers

WIDTHS = (8, 16, 32, 64)
BEGIN, OP, FMA, ORDER, OF, WHOLE, PASS, DOUBLE, UNDOUBLE, CLEAR, SUM, TOTAL = range(12)
ADD, SUBTRACT, MULTIPLY, DIVIDE, ROOT, NEAREST = range(6)
REFUSED = (-2,)
DOUBLE_SIGN = 2 ** 63
DOUBLE_INFINITY = 0x7FF0000000000000
DOUBLE_NO_NUMBER = 9221120237041090560


def split(given):
    """The answers one by one, each without its count."""
    parts = []
    place = 0
    while place < len(given):
        count = given[place]
        parts.append(tuple(given[place + 1:place + 1 + count]))
        place += 1 + count
    return parts


def line(*calls):
    """The answers to these calls, in one list."""
    return split(answers([number for call in calls for number in call]))


def ask(w, calls):
    """The answers to any number of calls of bench 0, begun with w, in as many lists as it takes."""
    parts = []
    for start in range(0, len(calls), 399):
        given = line((BEGIN, 0, w), *calls[start:start + 399])
        if given[0] != (0,):
            raise AssertionError("begin was refused")
        parts.extend(given[1:])
    return parts


def no_number(w):
    return 2 ** (w - 1)


def greatest(w):
    return 2 ** (w - 1) - 1


def minus(pattern, w):
    """The pattern of the opposite number."""
    return (2 ** w - pattern) % 2 ** w


@lru_cache(maxsize=None)
def says(pattern, w):
    """The number that a pattern of w bits says, or None for no number."""
    if pattern == 0:
        return Fraction(0)
    if pattern == no_number(w):
        return None
    if pattern > no_number(w):
        return -says(2 ** w - pattern, w)
    bits = format(pattern, "b").zfill(w)[1:]
    k = len(bits) - len(bits.lstrip(bits[0]))
    r = k - 1 if bits[0] == "1" else -k
    behind = bits[k + 1:]
    e = int(behind[:2].ljust(2, "0"), 2)
    fraction = behind[2:]
    f = Fraction(int(fraction, 2), 2 ** len(fraction)) if fraction else 0
    return (1 + f) * Fraction(2) ** (4 * r + e)


def place_above(u, w):
    """The number where rounding turns from the pattern u to u + 1."""
    return says(2 * u + 1, w + 1)


def compare(x, y):
    return (x > y) - (x < y)


def rounded_above_zero(compared, w):
    """The pattern of the number above 0 of which compared(y) tells how it compares with y."""
    if compared(says(greatest(w), w)) >= 0:
        return greatest(w)
    if compared(says(1, w)) <= 0:
        return 1
    low, high = 1, greatest(w)
    while high - low > 1:
        middle = (low + high) // 2
        if compared(says(middle, w)) >= 0:
            low = middle
        else:
            high = middle
    if compared(says(low, w)) == 0:
        return low
    side = compared(place_above(low, w))
    if side == 0:
        return low if low % 2 == 0 else low + 1
    return low if side < 0 else low + 1


@lru_cache(maxsize=None)
def rounded(x, w):
    """The pattern that the number x gets; None is no number."""
    if x is None:
        return no_number(w)
    if x == 0:
        return 0
    if x < 0:
        return minus(rounded(-x, w), w)
    return rounded_above_zero(lambda y: compare(x, y), w)


@lru_cache(maxsize=None)
def rounded_root(x, w):
    if x is None or x < 0:
        return no_number(w)
    if x == 0:
        return 0
    return rounded_above_zero(lambda y: compare(x, y * y), w)


def expected_op(choice, a, b, w):
    x, y = says(a, w), says(b, w)
    if choice == ROOT:
        return rounded_root(x, w)
    if x is None:
        return no_number(w)
    if choice == NEAREST:
        return rounded(Fraction(round(x)), w)
    if y is None or (choice == DIVIDE and y == 0):
        return no_number(w)
    if choice == ADD:
        return rounded(x + y, w)
    if choice == SUBTRACT:
        return rounded(x - y, w)
    if choice == MULTIPLY:
        return rounded(x * y, w)
    return rounded(x / y, w)


def expected_fma(a, b, c, w):
    x, y, z = says(a, w), says(b, w), says(c, w)
    if x is None or y is None or z is None:
        return no_number(w)
    return rounded(x * y + z, w)


def expected_whole(a, w):
    x = says(a, w)
    if x is None or not -2 ** 63 <= round(x) <= 2 ** 63 - 1:
        return 2 ** 63
    return round(x) % 2 ** 64


def double_says(bits):
    """The number that the 64 bits of a double say, or None where they say none."""
    text = format(bits, "064b")
    exponent, places = int(text[1:12], 2), Fraction(int(text[12:], 2), 2 ** 52)
    if exponent == 2047:
        return None
    size = places * Fraction(2) ** -1022 if exponent == 0 else (1 + places) * Fraction(2) ** (exponent - 1023)
    return -size if text[0] == "1" else size


@lru_cache(maxsize=None)
def nearest_double(x):
    """The bits of the double next to x, of two that are as near the one whose bits are even."""
    if x is None:
        return DOUBLE_NO_NUMBER
    if x < 0:
        return DOUBLE_SIGN + nearest_double(-x)
    low, high = 0, DOUBLE_INFINITY - 1
    while high - low > 1:
        middle = (low + high) // 2
        if double_says(middle) <= x:
            low = middle
        else:
            high = middle
    side = compare(x - double_says(low), double_says(high) - x)
    if side == 0:
        return low if low % 2 == 0 else high
    return low if side < 0 else high


def exactly(x, w):
    """The pattern that says x; it's an error of the test if there's none."""
    pattern = rounded(Fraction(x), w)
    if says(pattern, w) != x:
        raise AssertionError(f"{x} has no pattern of {w} bits")
    return pattern


def with_both_signs(patterns, w):
    return sorted({sign for p in patterns for sign in (p, minus(p, w))})


def run_patterns(w):
    """Patterns above 0 with each length of run of either bit, and each filling near its edges."""
    found = set()
    for k in range(1, w):
        left = w - 1 - k
        for run in ("0" * k + "1", "1" * k + "0"):
            for fill in ("0" * left, "1" * left, "10" * left, "01" * left, "0" * (left - 2) + "1"):
                found.add(int((run + fill)[:w - 1], 2))
    found.discard(0)
    return sorted(found)


def edge_patterns(w):
    """0, no number, the least and greatest, 1 and what lies beside them, with both signs."""
    one = 2 ** (w - 2)
    found = [0, 1, 2, 3, one - 1, one, one + 1, greatest(w) - 2, greatest(w) - 1, greatest(w)]
    return sorted(set(with_both_signs(found, w)) | {no_number(w)})


def mixed_patterns(w, count, seed):
    """Patterns of all sizes, the same ones each time."""
    source = Random(seed * 100 + w)
    runs = run_patterns(w)
    found = []
    for index in range(count):
        pattern = source.getrandbits(w)
        if index % 2:
            pattern = runs[source.randrange(len(runs))] ^ source.getrandbits(w // 4)
            pattern = minus(pattern, w) if source.getrandbits(1) else pattern
        found.append(pattern)
    return found
