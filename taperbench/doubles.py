"""Doubles, IEEE 754's binary64: the number that 64 bits say, and the bits of the double next to a number.

None stands for no number.
"""

from taperbench.exact import Exact, nearest_even, opposite

# A double is a sign, 11 bits of exponent, and 52 places behind the first 1.
PLACES = 52
SIGN = 9223372036854775808
ABOVE_NUMBERS = 2047
# The exponent of 1, and the power of two that the last place of the least doubles has.
BIAS = 1023
LEAST_POWER = -1074
NO_NUMBER = 9221120237041090560


def double_above_zero(number):
    places = number.mantissa.bit_length() - 1
    scale = number.power + places
    # No pattern says a number beyond 2^248 or below 2^-248: each is among the normal doubles.
    # The first 1 counts one in the exponent, and so does what rounding carries past it.
    return ((scale + BIAS - 1) << PLACES) + nearest_even(number.mantissa, PLACES - places)


def double_of(number):
    if number is None:
        return NO_NUMBER
    if number.mantissa == 0:
        return 0
    if number.mantissa < 0:
        return SIGN + double_above_zero(opposite(number))
    return double_above_zero(number)


def number_of_double(bits):
    fraction = bits % (1 << PLACES)
    exponent = (bits % SIGN) >> PLACES
    if exponent == ABOVE_NUMBERS:
        return None
    # Below the normal doubles there is no first 1, and the places are those of exponent 1.
    mantissa = fraction if exponent == 0 else fraction + (1 << PLACES)
    size = Exact(mantissa, LEAST_POWER + max(exponent - 1, 0))
    return size if bits < SIGN else opposite(size)
