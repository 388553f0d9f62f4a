"""Exact numbers rounded once, in a direction, to a half.

The directions (way): 0 to the nearest, of two as near the even one; 1 down; 2 up; 3 towards zero.
"""

from halfrowsdesk.halves import GREATEST, INFINITY, LEAST_NORMAL, UNIT_SHIFT, with_sign
from halfrowsdesk.signals import INEXACT, OVERFLOW, UNDERFLOW

NEAREST = 0
DOWN = 1
UP = 2

# A half has eleven bits: ten of fraction and the one ahead of them.
PRECISION = 11


def goes_outward(way, minus):
    """Whether a direction other than to the nearest leads away from zero."""
    return minus if way == DOWN else way == UP and not minus


def rounded_whole(way, minus, exact, below):
    """The magnitude exact / 2^below, of a number with the sign told, rounded to a whole number."""
    whole = exact >> below
    rest = exact - (whole << below)
    if rest == 0:
        return whole
    if way != NEAREST:
        return whole + 1 if goes_outward(way, minus) else whole
    half_way = 1 << (below - 1)
    if rest > half_way or rest == half_way and whole & 1 == 1:
        return whole + 1
    return whole


def overflow_answer(way, minus):
    stays = way != NEAREST and not goes_outward(way, minus)
    return (OVERFLOW | INEXACT, with_sign(minus, GREATEST if stays else INFINITY))


def is_tiny(way, minus, exact, below):
    # Just below 2^-14 (1024 units) eleven bits reach down to half a unit; further
    # below they reach deeper, but rounding there can't lead up to 2^-14 either way.
    return rounded_whole(way, minus, exact << 1, below) < LEAST_NORMAL << 1


def rounded_half(way, minus, exact, below):
    """The answer for exact / 2^below units, with the sign told."""
    dropped = max(exact.bit_length() - below - PRECISION, 0)
    kept = rounded_whole(way, minus, exact, below + dropped)
    # The bit ahead of the fraction adds 1 to the exponent, and so does a carry
    # out of all eleven bits: so one sum tells denormals and others alike.
    magnitude = (dropped << 10) + kept
    if magnitude >= INFINITY:
        return overflow_answer(way, minus)
    half = with_sign(minus, magnitude)
    if kept << (below + dropped) == exact:
        return (0, half)
    if magnitude <= LEAST_NORMAL and is_tiny(way, minus, exact, below):
        return (UNDERFLOW | INEXACT, half)
    return (INEXACT, half)


def rounded_by_power(way, minus, magnitude, power):
    """The answer for magnitude times 2^power units, with the sign told."""
    if power < 0:
        return rounded_half(way, minus, magnitude, -power)
    return rounded_half(way, minus, magnitude << power, 0)


def rounded_number(way, number):
    """The answer for a whole number."""
    return rounded_half(way, number < 0, abs(number) << UNIT_SHIFT, 0)
