"""Halves as whole numbers of sixteen bits, signed or unsigned, and these as halves."""

from halfrowsdesk.halves import is_infinite, is_minus, is_no_number
from halfrowsdesk.parts import nearby_whole
from halfrowsdesk.rounding import rounded_number
from halfrowsdesk.signals import INVALID

# The kinds of whole numbers: 0 signed, 1 unsigned.
SIGNED = 0

BEYOND_SIXTEEN_BITS = 65536
LEAST_SIGNED = -32768
GREATEST_SIGNED = 32767
NO_SIGNED = 0x8000
NO_UNSIGNED = 0xFFFF


def out_of_range(kind):
    return (INVALID, NO_SIGNED if kind == SIGNED else NO_UNSIGNED)


def as_whole(kind, way, a):
    """a rounded to a whole number of the kind; one below 0 is told as 65536 more."""
    if is_no_number(a) or is_infinite(a):
        return out_of_range(kind)
    found = nearby_whole(way, a)
    number = -found[1] if is_minus(a) else found[1]
    least = LEAST_SIGNED if kind == SIGNED else 0
    if number < least or number >= least + BEYOND_SIXTEEN_BITS:
        return out_of_range(kind)
    return (found[0], number + BEYOND_SIXTEEN_BITS if number < 0 else number)


def of_whole(kind, way, z):
    """The whole number of the kind that z tells, rounded to a half."""
    if kind == SIGNED and z > GREATEST_SIGNED:
        return rounded_number(way, z - BEYOND_SIXTEEN_BITS)
    return rounded_number(way, z)
