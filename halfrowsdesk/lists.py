"""Lists of halves gone through, one half after the other.

What is worked out in several steps is answered like a lane: what all steps raised, then the last one's half.
"""

from halfrowsdesk.arithmetic import add, multiply, multiply_and_add
from halfrowsdesk.halves import NO_NUMBER, ONE, is_minus, is_no_number, rank


def sum_in_order(way, halves):
    raised = 0
    total = 0
    for half in halves:
        answer = add(way, total, half)
        raised = raised | answer[0]
        total = answer[1]
    return (raised, total)


def polynomial(way, x, coefficients):
    if len(coefficients) == 0:
        return (0, 0)
    # The product by 1 tells every no number as the one half, and raises invalid for a signalling one.
    answer = multiply(way, coefficients[-1], ONE)
    raised = answer[0]
    for i in range(len(coefficients) - 2, -1, -1):
        answer = multiply_and_add(way, answer[1], x, coefficients[i])
        raised = raised | answer[0]
    return (raised, answer[1])


def place(half):
    """A whole number that is less the earlier the half stands in order; -0 stands before 0."""
    return rank(half) - 1 if is_minus(half) else rank(half)


def in_order(halves):
    """The halves put in order, no numbers last, for they are told as a half that lies beyond infinity."""
    told = [NO_NUMBER if is_no_number(half) else half for half in halves]
    return sorted(told, key=place)
