"""Exact numbers: a whole number times a power of two, and what is reckoned with them.

Where there is no result, None stands for no number.
"""

# No place between two patterns of 64 bits has more than 61 bits from its first 1 to its last.
# A quotient or a root is cut behind more bits than that.
SPARE_BITS = 72


# The number mantissa * 2^power. The mantissa bears the sign, and may be even.
class Exact:
    def __init__(self, mantissa, power):
        self.mantissa = mantissa
        self.power = power


def zero():
    return Exact(0, 0)


def nearest_even(number, power):
    # The whole number next to number * 2^power, of two that are as near the even one.
    if power >= 0:
        return number << power
    below = number >> -power
    rest = number - (below << -power)
    half = 1 << (-power - 1)
    if rest > half or (rest == half and below % 2 == 1):
        return below + 1
    return below


def nearest_whole(a):
    return nearest_even(a.mantissa, a.power)


def opposite(a):
    return Exact(-a.mantissa, a.power)


def add(a, b):
    low = min(a.power, b.power)
    return Exact((a.mantissa << (a.power - low)) + (b.mantissa << (b.power - low)), low)


def subtract(a, b):
    return add(a, opposite(b))


def multiply(a, b):
    return Exact(a.mantissa * b.mantissa, a.power + b.power)


def cut_off(mantissa, rest, power):
    # One 1 stands for all that is cut off: it lies behind every place where rounding
    # decides, so the number gets the pattern that the uncut one gets.
    return Exact(2 * mantissa + (1 if rest > 0 else 0), power - 1)


def divide(a, b):
    if b.mantissa == 0:
        return None
    divisor = abs(b.mantissa)
    shift = SPARE_BITS + divisor.bit_length()
    dividend = abs(a.mantissa) << shift
    size = cut_off(dividend // divisor, dividend % divisor, a.power - b.power - shift)
    return size if (a.mantissa < 0) == (b.mantissa < 0) else opposite(size)


def floor_root(number):
    # Newton's steps fall from any start that is not below the root until they reach it.
    guess = 1 << ((number.bit_length() + 1) // 2)
    better = (guess + number // guess) // 2
    while better < guess:
        guess = better
        better = (guess + number // guess) // 2
    return guess


def root(a):
    if a.mantissa < 0:
        return None
    if a.mantissa == 0:
        return a
    # What is left of the power must be even, to be halved.
    shift = 2 * SPARE_BITS + a.power % 2
    square = a.mantissa << shift
    found = floor_root(square)
    return cut_off(found, square - found * found, (a.power - shift) // 2)


def to_whole(a):
    return Exact(nearest_whole(a), 0)


def multiply_add(a, b, c):
    if a is None or b is None or c is None:
        return None
    return add(multiply(a, b), c)


OF_TWO = (add, subtract, multiply, divide)
OF_ONE = (root, to_whole)


def is_operation(choice):
    return 0 <= choice < len(OF_TWO) + len(OF_ONE)


def operate(choice, a, b):
    if a is None:
        return None
    if choice >= len(OF_TWO):
        of_one = OF_ONE[choice - len(OF_TWO)]
        return of_one(a)
    if b is None:
        return None
    of_two = OF_TWO[choice]
    return of_two(a, b)
