"""Sums, products, quotients, roots: each exact first, then rounded once."""

from halfrowsdesk.halves import INFINITY, UNIT_SHIFT, is_infinite, is_minus, is_zero
from halfrowsdesk.halves import magnitude_units, units, unlike_signs, with_sign
from halfrowsdesk.signals import DIVISION_BY_ZERO, invalid_answer, no_number_answer
from halfrowsdesk.rounding import DOWN, rounded_half

# Bits below a unit that a quotient or a root is worked out to: two decide how it
# rounds and whether it underflows, and one more tells if anything is left behind them.
SPARE = 2


def rounded_sum(way, exact, below, first_minus, second_minus):
    """A sum of exact / 2^below units, of two numbers with the signs told, as a half."""
    minus = exact < 0
    if exact == 0:
        minus = first_minus if first_minus == second_minus else way == DOWN
    return rounded_half(way, minus, abs(exact), below)


def add(way, a, b):
    answer = no_number_answer((a, b))
    if answer is not None:
        return answer
    if is_infinite(a) and is_infinite(b) and a != b:
        return invalid_answer()
    if is_infinite(a):
        return (0, a)
    if is_infinite(b):
        return (0, b)
    return rounded_sum(way, units(a) + units(b), 0, is_minus(a), is_minus(b))


def is_zero_times_infinity(a, b):
    return is_zero(a) and is_infinite(b) or is_infinite(a) and is_zero(b)


def multiply(way, a, b):
    answer = no_number_answer((a, b))
    if answer is not None:
        return answer
    if is_zero_times_infinity(a, b):
        return invalid_answer()
    minus = unlike_signs(a, b)
    if is_infinite(a) or is_infinite(b):
        return (0, with_sign(minus, INFINITY))
    return rounded_half(way, minus, magnitude_units(a) * magnitude_units(b), UNIT_SHIFT)


def multiply_and_add(way, a, b, c):
    """a b + c, the product not rounded by itself."""
    answer = no_number_answer((a, b, c))
    if answer is not None:
        return answer
    if is_zero_times_infinity(a, b):
        return invalid_answer()
    minus = unlike_signs(a, b)
    if is_infinite(a) or is_infinite(b):
        return add(way, with_sign(minus, INFINITY), c)
    if is_infinite(c):
        return (0, c)
    exact = units(a) * units(b) + (units(c) << UNIT_SHIFT)
    return rounded_sum(way, exact, UNIT_SHIFT, minus, is_minus(c))


def with_rest_told(found, is_exact):
    """What was found, with one bit more that says if something is left behind it."""
    return found << 1 if is_exact else found << 1 | 1


def divide(way, a, b):
    answer = no_number_answer((a, b))
    if answer is not None:
        return answer
    if is_zero(a) and is_zero(b) or is_infinite(a) and is_infinite(b):
        return invalid_answer()
    minus = unlike_signs(a, b)
    if is_infinite(a):
        return (0, with_sign(minus, INFINITY))
    if is_infinite(b):
        return (0, with_sign(minus, 0))
    if is_zero(b):
        return (DIVISION_BY_ZERO, with_sign(minus, INFINITY))
    dividend = magnitude_units(a) << (UNIT_SHIFT + SPARE)
    quotient = dividend // magnitude_units(b)
    is_exact = quotient * magnitude_units(b) == dividend
    return rounded_half(way, minus, with_rest_told(quotient, is_exact), SPARE + 1)


def whole_root(square):
    """The greatest whole number whose square is no more than the one told, which is above 0."""
    root = 1 << (square.bit_length() + 1 >> 1)
    closer = (root + square // root) >> 1
    while closer < root:
        root = closer
        closer = (root + square // root) >> 1
    return root


def square_root(way, a):
    answer = no_number_answer((a,))
    if answer is not None:
        return answer
    if is_zero(a):
        return (0, a)
    if is_minus(a):
        return invalid_answer()
    if is_infinite(a):
        return (0, a)
    # The root of n units is the root of n 2^24, in units.
    square = magnitude_units(a) << (UNIT_SHIFT + SPARE + SPARE)
    root = whole_root(square)
    return rounded_half(way, False, with_rest_told(root, root * root == square), SPARE + 1)
