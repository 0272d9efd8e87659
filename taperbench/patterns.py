"""Patterns of a width: the number that a pattern says, and the pattern that a number gets.

None stands for no number.
"""

from taperbench.exact import Exact, nearest_even, opposite, zero


def run_length(pattern, width):
    # Of a run of 1s the flipped bits are a run of 0s, ahead of the flipped pattern's first 1.
    lower = width - 1
    if pattern >> (lower - 1) == 1:
        pattern = pattern ^ ((1 << lower) - 1)
    return lower - pattern.bit_length()


def number_above_zero(pattern, width):
    run = run_length(pattern, width)
    r = run - 1 if pattern >> (width - 2) == 1 else -run
    # A run that takes all the bits has no bit that ends it.
    left = max(width - 1 - run - 1, 0)
    tail = pattern & ((1 << left) - 1)
    e = (tail << 2) >> left
    places = max(left - 2, 0)
    f = tail & ((1 << places) - 1)
    return Exact((1 << places) + f, 4 * r + e - places)


def number_of(pattern, width):
    half = 1 << (width - 1)
    if pattern == 0:
        return zero()
    if pattern == half:
        return None
    if pattern > half:
        return opposite(number_above_zero(2 * half - pattern, width))
    return number_above_zero(pattern, width)


def pattern_above_zero(number, width):
    places = number.mantissa.bit_length() - 1
    scale = number.power + places
    r = scale // 4
    if r >= width - 2:
        return (1 << (width - 1)) - 1
    if r < 2 - width:
        return 1
    run_bits = r + 2 if r >= 0 else 1 - r
    run = (1 << run_bits) - 2 if r >= 0 else 1
    bits = (((run << 2) + scale % 4) << places) + number.mantissa - (1 << places)
    # The bits that don't fit are read as places behind the pattern u: the half is where
    # the pattern 2 u + 1 of one more bit lies, wherever that is between the two numbers.
    return nearest_even(bits, width - 1 - (run_bits + 2 + places))


def pattern_of(number, width):
    if number is None:
        return 1 << (width - 1)
    if number.mantissa == 0:
        return 0
    if number.mantissa < 0:
        return (1 << width) - pattern_above_zero(opposite(number), width)
    return pattern_above_zero(number, width)


def signed(pattern, width):
    return pattern - (1 << width) if pattern >> (width - 1) == 1 else pattern
