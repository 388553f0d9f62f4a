"""The calls: each works on rows or lists of halves, and answers what was raised, then what else is told."""

from halfrowsdesk.arithmetic import add, divide, multiply, multiply_and_add, square_root
from halfrowsdesk.complexes import imaginary_part, real_part
from halfrowsdesk.halves import is_denormal, is_infinite, is_minus, is_no_number, is_signalling, is_zero
from halfrowsdesk.halves import negated, rank
from halfrowsdesk.lists import in_order, polynomial, sum_in_order
from halfrowsdesk.parts import exponent, greater, less_whole_part, lesser, scaled, whole_part, without_exponent
from halfrowsdesk.signals import INVALID, REFUSED
from halfrowsdesk.wholes import as_whole, of_whole
from halfrowsdesk.wider import DOUBLE, FLOAT, narrowed, widened

LANES = 32
FLOAT_LANES = 16
DOUBLE_LANES = 8
LONGEST_LIST = 65536
LAST_OP = 17
LAST_WAY = 3
LAST_HOW = 31
LAST_OTHER = 1
LAST_KIND = 1

LESS = 1
EQUAL = 2
GREATER = 4
UNORDERED = 8
ANY_IS_INVALID = 16


def basic_step(op, way, a, b):
    if op == 0:
        return add(way, a, b)
    if op == 1:
        return add(way, a, negated(b))
    if op == 2:
        return multiply(way, a, b)
    if op == 3:
        return divide(way, a, b)
    return square_root(way, a)


def fused_op(op, lane):
    """Which of ops 5 and 6 it is that ops 9 and 10 stand for in the lane."""
    if op == 9:
        return 6 if lane & 1 == 0 else 5
    if op == 10:
        return 5 if lane & 1 == 0 else 6
    return op


def fused_step(op, way, a, b, c):
    if op == 5:
        return multiply_and_add(way, a, b, c)
    if op == 6:
        return multiply_and_add(way, a, b, negated(c))
    if op == 7:
        return multiply_and_add(way, negated(a), b, c)
    return multiply_and_add(way, negated(a), b, negated(c))


def parts_step(op, way, a, b):
    if op == 11:
        return lesser(a, b)
    if op == 12:
        return greater(a, b)
    if op == 13:
        return exponent(a)
    if op == 14:
        return without_exponent(a)
    if op == 15:
        return scaled(way, a, b)
    if op == 16:
        return whole_part(way, a)
    return less_whole_part(way, a)


def step(op, way, lane, a, b, c):
    if op < 5:
        return basic_step(op, way, a, b)
    if op < 11:
        return fused_step(fused_op(op, lane), way, a, b, c)
    return parts_step(op, way, a, b)


def refused(count):
    return [REFUSED] + [0] * count


def together(answers):
    """One answer of the lanes': what all of them raised, then what each of them tells."""
    raised = 0
    row = []
    for lane_raised, told in answers:
        raised = raised | lane_raised
        row.append(told)
    return [raised] + row


def do(op, way, a, b, c):
    if op > LAST_OP or way > LAST_WAY:
        return refused(LANES)
    return together([step(op, way, lane, a[lane], b[lane], c[lane]) for lane in range(LANES)])


def relation(a, b):
    if is_no_number(a) or is_no_number(b):
        return UNORDERED
    if rank(a) < rank(b):
        return LESS
    return EQUAL if rank(a) == rank(b) else GREATER


def raised_by_comparing(how, a, b):
    if how & ANY_IS_INVALID != 0:
        return INVALID if is_no_number(a) or is_no_number(b) else 0
    return INVALID if is_signalling(a) or is_signalling(b) else 0


def holds(how, a, b):
    if how > LAST_HOW:
        return refused(1)
    raised = 0
    found = 0
    for lane in range(LANES):
        raised = raised | raised_by_comparing(how, a[lane], b[lane])
        if how & relation(a[lane], b[lane]) != 0:
            found = found | 1 << lane
    return [raised, found]


def kinds_of(half):
    """The kinds, as is_kind names them, that a half is of."""
    if is_no_number(half):
        return 128 if is_signalling(half) else 1
    if is_zero(half):
        return 4 if is_minus(half) else 2
    if is_infinite(half):
        return 16 if is_minus(half) else 8
    return (32 if is_denormal(half) else 0) | (64 if is_minus(half) else 0)


def is_kind(which, a):
    found = 0
    for lane in range(LANES):
        if which & kinds_of(a[lane]) != 0:
            found = found | 1 << lane
    return [0, found]


def where(mask, a, b):
    return [0] + [b[lane] if mask >> lane & 1 == 1 else a[lane] for lane in range(LANES)]


def times(other, way, a, b):
    if other > LAST_OTHER or way > LAST_WAY:
        return refused(LANES)
    answers = []
    for lane in range(0, LANES, 2):
        y_imaginary = negated(b[lane + 1]) if other == 1 else b[lane + 1]
        answers.append(real_part(way, a[lane], a[lane + 1], b[lane], y_imaginary))
        answers.append(imaginary_part(way, a[lane], a[lane + 1], b[lane], y_imaginary))
    return together(answers)


def whole(kind, way, a):
    if kind > LAST_KIND or way > LAST_WAY:
        return refused(LANES)
    return together([as_whole(kind, way, half) for half in a])


def of(kind, way, z):
    if kind > LAST_KIND or way > LAST_WAY:
        return refused(LANES)
    return together([of_whole(kind, way, number) for number in z])


def to_float(a):
    return together([widened(FLOAT, half) for half in a])


def of_float(way, x):
    if way > LAST_WAY:
        return refused(FLOAT_LANES)
    return together([narrowed(FLOAT, way, bits) for bits in x])


def to_double(a):
    return together([widened(DOUBLE, half) for half in a])


def of_double(way, x):
    if way > LAST_WAY:
        return refused(DOUBLE_LANES)
    return together([narrowed(DOUBLE, way, bits) for bits in x])


def sum_of(way, x):
    if way > LAST_WAY or len(x) > LONGEST_LIST:
        return refused(1)
    return list(sum_in_order(way, x))


def poly(way, x, c):
    if way > LAST_WAY or len(c) > LONGEST_LIST:
        return refused(1)
    return list(polynomial(way, x, c))


def order(x):
    if len(x) > LONGEST_LIST:
        return refused(0)
    return [0] + in_order(x)
