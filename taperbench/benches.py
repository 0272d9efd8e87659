"""The benches, and the calls that are made of them."""

from taperbench.doubles import double_of, number_of_double
from taperbench.exact import Exact, is_operation, multiply_add, nearest_whole, operate, opposite, zero
from taperbench.patterns import number_of, pattern_of, signed

WIDTHS = (8, 16, 32, 64)
DONE = 0
REFUSED = -2
# 2^63: the first whole number above those that whole answers, and its answer for all outside.
OUTSIDE = 9223372036854775808


# The width is 0 until the bench is begun. The tally is the sum, or None once it is no number.
class Bench:
    def __init__(self):
        self.width = 0
        self.tally = zero()

    def are_patterns(self, numbers):
        return max(numbers) >> self.width == 0

    def number(self, pattern):
        return number_of(pattern, self.width)

    def pattern(self, number):
        return pattern_of(number, self.width)


def begin(bench, numbers):
    if numbers[0] not in WIDTHS:
        return [REFUSED]
    bench.width = numbers[0]
    bench.tally = zero()
    return [DONE]


def op(bench, numbers):
    choice = numbers[0]
    if not is_operation(choice) or not bench.are_patterns(numbers[1:]):
        return [REFUSED]
    result = operate(choice, bench.number(numbers[1]), bench.number(numbers[2]))
    return [DONE, bench.pattern(result)]


def fma(bench, numbers):
    if not bench.are_patterns(numbers):
        return [REFUSED]
    result = multiply_add(bench.number(numbers[0]), bench.number(numbers[1]), bench.number(numbers[2]))
    return [DONE, bench.pattern(result)]


def order(bench, numbers):
    if not bench.are_patterns(numbers):
        return [REFUSED]
    # Patterns with a sign are in the order of what they say, and no number's is the least.
    a = signed(numbers[0], bench.width)
    b = signed(numbers[1], bench.width)
    if a == b:
        return [0]
    return [-1] if a < b else [1]


def of(bench, numbers):
    return [DONE, bench.pattern(Exact(numbers[0], 0))]


def whole(bench, numbers):
    if not bench.are_patterns(numbers):
        return [REFUSED]
    number = bench.number(numbers[0])
    if number is None:
        return [DONE, OUTSIDE]
    result = nearest_whole(number)
    if result < -OUTSIDE or result >= OUTSIDE:
        return [DONE, OUTSIDE]
    return [DONE, result % (2 * OUTSIDE)]


def pass_to(bench, numbers):
    width = numbers[0]
    if width not in WIDTHS or not bench.are_patterns(numbers[1:]):
        return [REFUSED]
    return [DONE, pattern_of(bench.number(numbers[1]), width)]


def double(bench, numbers):
    if not bench.are_patterns(numbers):
        return [REFUSED]
    return [DONE, double_of(bench.number(numbers[0]))]


def undouble(bench, numbers):
    return [DONE, bench.pattern(number_of_double(numbers[0]))]


def clear(bench, numbers):
    bench.tally = zero()
    return [DONE]


def add_product(bench, numbers):
    minus = numbers[2]
    if minus not in (0, 1) or not bench.are_patterns(numbers[:2]):
        return [REFUSED]
    a = bench.number(numbers[0])
    if minus == 1 and a is not None:
        a = opposite(a)
    bench.tally = multiply_add(a, bench.number(numbers[1]), bench.tally)
    return [DONE]


def total(bench, numbers):
    return [DONE, bench.pattern(bench.tally)]


# By a call's number: what answers it, and how many numbers stand behind its bench.
CALLS = (
    (begin, 1), (op, 3), (fma, 3), (order, 2), (of, 1), (whole, 1),
    (pass_to, 2), (double, 1), (undouble, 1), (clear, 0), (add_product, 3), (total, 0),
)


def answers(calls):
    benches = [Bench(), Bench()]
    given = []
    place = 0
    while place < len(calls):
        call = CALLS[calls[place]]
        end = place + 2 + call[1]
        act = call[0]
        answer = act(benches[calls[place + 1]], calls[place + 2:end])
        given.append(len(answer))
        given.extend(answer)
        place = end
    return given
