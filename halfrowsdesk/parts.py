"""The lesser and the greater of two, exponents and fractions, powers of two, whole parts."""

from halfrowsdesk.arithmetic import add
from halfrowsdesk.halves import INFINITY, MINUS_INFINITY, NO_NUMBER, ONE, UNIT_SHIFT
from halfrowsdesk.halves import is_infinite, is_minus, is_no_number, is_zero
from halfrowsdesk.halves import magnitude_units, negated, rank, units, with_sign
from halfrowsdesk.signals import INEXACT, INVALID, invalid_answer, no_number_answer
from halfrowsdesk.rounding import NEAREST, rounded_by_power, rounded_half, rounded_number, rounded_whole

# So many powers of two lead from the least half to beyond the greatest, and from the
# greatest to below half of the least: more of them give the same answer.
MOST_POWERS = 64


def lesser(a, b):
    if is_no_number(a) or is_no_number(b):
        return second_where_no_number(b)
    return (0, a if rank(a) < rank(b) else b)


def greater(a, b):
    if is_no_number(a) or is_no_number(b):
        return second_where_no_number(b)
    return (0, a if rank(a) > rank(b) else b)


def second_where_no_number(b):
    return (INVALID, NO_NUMBER if is_no_number(b) else b)


def exponent(a):
    answer = no_number_answer((a,))
    if answer is not None:
        return answer
    if is_zero(a):
        return (0, MINUS_INFINITY)
    if is_infinite(a):
        return (0, INFINITY)
    power = magnitude_units(a).bit_length() - 1 - UNIT_SHIFT
    return rounded_number(NEAREST, power)


def without_exponent(a):
    """a by the power of two that its exponent tells."""
    answer = no_number_answer((a,))
    if answer is not None:
        return answer
    minus = is_minus(a)
    if is_zero(a) or is_infinite(a):
        return (0, with_sign(minus, ONE))
    magnitude = magnitude_units(a)
    return rounded_half(NEAREST, minus, magnitude << UNIT_SHIFT, magnitude.bit_length() - 1)


def scaled(way, a, b):
    """a times 2 to the greatest whole number that's no more than b."""
    answer = no_number_answer((a, b))
    if answer is not None:
        return answer
    if is_infinite(b):
        return scaled_without_end(a, b)
    if is_zero(a) or is_infinite(a):
        return (0, a)
    power = min(max(units(b) >> UNIT_SHIFT, -MOST_POWERS), MOST_POWERS)
    return rounded_by_power(way, is_minus(a), magnitude_units(a), power)


def scaled_without_end(a, b):
    if is_minus(b):
        return invalid_answer() if is_infinite(a) else (0, with_sign(is_minus(a), 0))
    return invalid_answer() if is_zero(a) else (0, with_sign(is_minus(a), INFINITY))


def nearby_whole(way, a):
    """What rounding a finite half to a whole number raises, and that number's magnitude."""
    magnitude = magnitude_units(a)
    whole = rounded_whole(way, is_minus(a), magnitude, UNIT_SHIFT)
    return (0 if whole << UNIT_SHIFT == magnitude else INEXACT, whole)


def whole_part(way, a):
    """a rounded to a whole number in the direction."""
    answer = no_number_answer((a,))
    if answer is not None:
        return answer
    if is_infinite(a):
        return (0, a)
    found = nearby_whole(way, a)
    return (found[0], rounded_half(way, is_minus(a), found[1] << UNIT_SHIFT, 0)[1])


def less_whole_part(way, a):
    """a less that whole number: what the whole part itself raised is not told."""
    if is_infinite(a):
        return (0, 0)
    rest = add(way, a, negated(whole_part(way, a)[1]))
    return (0, 0) if is_zero(rest[1]) else rest
