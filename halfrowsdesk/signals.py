"""What a step raises, and the answers that tell of no number.

A lane's answer is a tuple: what it raised, then its half.
"""

from halfrowsdesk.halves import NO_NUMBER, is_no_number, is_signalling

INVALID = 1
DIVISION_BY_ZERO = 2
OVERFLOW = 4
UNDERFLOW = 8
INEXACT = 16
REFUSED = 2147483648


def invalid_answer():
    return (INVALID, NO_NUMBER)


def no_number_answer(arguments):
    """The lane's answer if one of its arguments is no number, else None."""
    if not any([is_no_number(half) for half in arguments]):
        return None
    if any([is_signalling(half) for half in arguments]):
        return invalid_answer()
    return (0, NO_NUMBER)
