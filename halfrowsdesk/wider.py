"""Halves as floats and doubles, and those as halves.

A form is a tuple: how many bits of exponent, then how many of fraction.
"""

from halfrowsdesk.halves import INFINITY, NO_NUMBER, UNIT_SHIFT, is_infinite, is_minus, is_zero
from halfrowsdesk.halves import magnitude_units, with_sign
from halfrowsdesk.rounding import rounded_by_power
from halfrowsdesk.signals import invalid_answer, no_number_answer

FLOAT = (8, 23)
DOUBLE = (11, 52)


def sign_of(form):
    return 1 << (form[0] + form[1])


def infinity_of(form):
    return sign_of(form) - (1 << form[1])


def quiet_bit_of(form):
    """The fraction's top bit."""
    return 1 << (form[1] - 1)


def bias_of(form):
    return (1 << (form[0] - 1)) - 1


def widened_magnitude(form, a):
    if is_zero(a):
        return 0
    if is_infinite(a):
        return infinity_of(form)
    magnitude = magnitude_units(a)
    power = magnitude.bit_length() - 1
    # A wider form has so many exponents that no half but 0 is denormal in it. The bit
    # ahead of the fraction is left in, and adds the last 1 to the exponent.
    exponent = power - UNIT_SHIFT + bias_of(form) - 1
    return (exponent << form[1]) + (magnitude << form[1] >> power)


def widened(form, a):
    """A half in a wider form, where it is the same number."""
    answer = no_number_answer((a,))
    if answer is not None:
        return (answer[0], infinity_of(form) | quiet_bit_of(form))
    magnitude = widened_magnitude(form, a)
    return (0, magnitude | sign_of(form) if is_minus(a) else magnitude)


def rounded_magnitude(form, way, minus, magnitude):
    """The answer for a finite number of a wider form, with the sign told."""
    exponent = magnitude >> form[1]
    significand = magnitude - (exponent << form[1])
    if exponent != 0:
        significand = significand + (1 << form[1])
    # A denormal has the power of two of the least normal number.
    power = max(exponent, 1) - bias_of(form) - form[1]
    return rounded_by_power(way, minus, significand, power + UNIT_SHIFT)


def narrowed(form, way, x):
    """A number of a wider form, rounded to a half."""
    minus = x >= sign_of(form)
    magnitude = x & (sign_of(form) - 1)
    if magnitude > infinity_of(form):
        return (0, NO_NUMBER) if magnitude & quiet_bit_of(form) != 0 else invalid_answer()
    if magnitude == infinity_of(form):
        return (0, with_sign(minus, INFINITY))
    return rounded_magnitude(form, way, minus, magnitude)
