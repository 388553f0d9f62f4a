"""Halves told by their bits: which sort each one is, and which number."""

SIGN = 0x8000
MAGNITUDE = 0x7FFF
FRACTION = 0x03FF
QUIET = 0x0200
LEAST_NORMAL = 0x0400
ONE = 0x3C00
GREATEST = 0x7BFF
INFINITY = 0x7C00
MINUS_INFINITY = 0xFC00
NO_NUMBER = 0x7E00

# Every finite half is a whole number of units of 2^-24, the least denormal.
UNIT_SHIFT = 24


def is_minus(half):
    return half >= SIGN


def is_zero(half):
    return half & MAGNITUDE == 0


def is_infinite(half):
    return half & MAGNITUDE == INFINITY


def is_denormal(half):
    magnitude = half & MAGNITUDE
    return magnitude != 0 and magnitude < LEAST_NORMAL


def is_no_number(half):
    return half & MAGNITUDE > INFINITY


def is_signalling(half):
    return is_no_number(half) and half & QUIET == 0


def with_sign(minus, magnitude):
    return magnitude | SIGN if minus else magnitude


def negated(half):
    return half ^ SIGN


def unlike_signs(a, b):
    return is_minus(a) != is_minus(b)


def magnitude_units(half):
    """How many units a finite half is in magnitude."""
    magnitude = half & MAGNITUDE
    if magnitude < LEAST_NORMAL:
        return magnitude
    return (LEAST_NORMAL + (magnitude & FRACTION)) << ((magnitude >> 10) - 1)


def units(half):
    """How many units a finite half is, below 0 for one below 0."""
    return -magnitude_units(half) if is_minus(half) else magnitude_units(half)


def rank(half):
    """A whole number that stands to others as the half does: both zeros have the same."""
    magnitude = half & MAGNITUDE
    return -magnitude if is_minus(half) else magnitude
