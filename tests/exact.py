"""The document's rules once more, in another form, to hold the program against.

Numbers are Fractions here, read by struct; rounding looks for the neighbours of the
exact number in the table of all finite halves, and ops are worked out on the numbers.
"""

import struct
from bisect import bisect_right
from collections import Counter
from fractions import Fraction
from functools import cache
from math import floor

INVALID, BY_ZERO, OVER, UNDER, INEXACT = 1, 2, 4, 8, 16
REFUSED = 2147483648
NAN, INF, MINUS_INF = 0x7E00, 0x7C00, 0xFC00
NO = (INVALID, NAN)


@cache
def number(half):
    return Fraction(struct.unpack("<e", half.to_bytes(2, "little"))[0])


TABLE = [number(half) for half in range(INF)]
SQUARES = [n * n for n in TABLE]
# All of the table is whole in 2^-24: what lies below a number is looked for there, which is quicker.
STEPS = [int(n * 2 ** 24) for n in TABLE]
LEAST_NORMAL = Fraction(1, 2 ** 14)
# The greatest number of eleven bits below it.
BEFORE_NORMAL = LEAST_NORMAL - Fraction(1, 2 ** 25)


def minus(half):
    return half >> 15


def nan(half):
    return half & 0x7FFF > INF


def signalling(half):
    return nan(half) and not half & 0x200


def inf(half):
    return half & 0x7FFF == INF


def zero(half):
    return half & 0x7FFF == 0


def outward(way, sign, nearer):
    """Whether it goes to the outer neighbour; nearer: -1 the inner is nearer, 1 the outer, 2 as near and even."""
    if way == 0:
        return nearer > 0
    return way == (1 if sign else 2)


def side(low, high, x, high_is_even):
    twice = 2 * x - low - high
    return (2 if high_is_even else -1) if twice == 0 else (1 if twice > 0 else -1)


def underflows(way, sign, x):
    if x >= LEAST_NORMAL:
        return False
    if x <= BEFORE_NORMAL:
        return True
    return not outward(way, sign, side(BEFORE_NORMAL, LEAST_NORMAL, x, True))


def bits(sign, magnitude):
    return sign << 15 | magnitude


def rounded(way, sign, x):
    """The answer for the magnitude x with the sign."""
    if x >= 65536:
        return (OVER | INEXACT, bits(sign, INF if way == 0 or outward(way, sign, 1) else INF - 1))
    at = bisect_right(STEPS, floor(x * 2 ** 24)) - 1
    if TABLE[at] == x:
        return (0, bits(sign, at))
    above = TABLE[at + 1] if at + 1 < INF else Fraction(65536)
    if outward(way, sign, side(TABLE[at], above, x, at & 1)):
        at += 1
    raised = INEXACT | (OVER if at == INF else 0) | (UNDER if underflows(way, sign, x) else 0)
    return (raised, bits(sign, at))


def signed(way, x, zero_sign):
    return rounded(way, zero_sign if x == 0 else int(x < 0), abs(x))


def plus(way, x, x_sign, y, y_sign):
    return signed(way, x + y, x_sign if x_sign == y_sign else int(way == 1))


def add(way, a, b):
    if inf(a) or inf(b):
        return NO if inf(a) and inf(b) and a != b else (0, a if inf(a) else b)
    return plus(way, number(a), minus(a), number(b), minus(b))


def product_sign(a, b):
    return minus(a) ^ minus(b)


def mul(way, a, b):
    if inf(a) or inf(b):
        return NO if zero(a) or zero(b) else (0, bits(product_sign(a, b), INF))
    return signed(way, number(a) * number(b), product_sign(a, b))


def div(way, a, b):
    sign = product_sign(a, b)
    if zero(a) and zero(b) or inf(a) and inf(b):
        return NO
    if inf(a):
        return (0, bits(sign, INF))
    if inf(b):
        return (0, bits(sign, 0))
    if zero(b):
        return (BY_ZERO, bits(sign, INF))
    return signed(way, number(a) / number(b), sign)


def root(way, a):
    if zero(a) or a == INF:
        return (0, a)
    if minus(a):
        return NO
    x = number(a)
    at = bisect_right(SQUARES, x) - 1
    if SQUARES[at] == x:
        return (0, at)
    middle = (TABLE[at] + TABLE[at + 1]) / 2
    up = x > middle * middle if way == 0 else way == 2
    return (INEXACT, at + 1 if up else at)


def fused(way, a, b, c, product_flip, c_flip):
    sign = product_sign(a, b) ^ product_flip
    c_sign = minus(c) ^ c_flip
    if inf(a) or inf(b):
        if zero(a) or zero(b) or inf(c) and sign != c_sign:
            return NO
        return (0, bits(sign, INF))
    if inf(c):
        return (0, bits(c_sign, INF))
    x = abs(number(a) * number(b)) * (-1 if sign else 1)
    y = abs(number(c)) * (-1 if c_sign else 1)
    return plus(way, x, sign, y, c_sign)


def less_than(a, b):
    if a == b:
        return False
    if a == MINUS_INF or b == INF:
        return True
    if a == INF or b == MINUS_INF:
        return False
    return number(a) < number(b)


def pick(a, b, take_a):
    if nan(a) or nan(b):
        return (INVALID, NAN if nan(b) else b)
    return (0, a if take_a(a, b) else b)


def power_of(a):
    e = 0
    x = abs(number(a))
    while Fraction(2) ** e > x:
        e -= 1
    while Fraction(2) ** (e + 1) <= x:
        e += 1
    return e


def exponent(a):
    if zero(a):
        return (0, MINUS_INF)
    if inf(a):
        return (0, INF)
    return signed(0, Fraction(power_of(a)), 0)


def fraction(a):
    if zero(a) or inf(a):
        return (0, bits(minus(a), 0x3C00))
    return signed(0, number(a) / Fraction(2) ** power_of(a), 0)


def scale(way, a, b):
    if b == MINUS_INF:
        return NO if inf(a) else (0, bits(minus(a), 0))
    if b == INF:
        return NO if zero(a) else (0, bits(minus(a), INF))
    if zero(a) or inf(a):
        return (0, a)
    return signed(way, number(a) * Fraction(2) ** floor(number(b)), 0)


def whole_number(way, x):
    if way == 0:
        return round(x)
    down = floor(x)
    if way == 1 or down == x:
        return down
    return down + 1 if way == 2 or x < 0 else down


def whole(way, a):
    if inf(a):
        return (0, a)
    n = whole_number(way, number(a))
    return (0 if n == number(a) else INEXACT, signed(0, Fraction(n), minus(a))[1])


def rest(way, a):
    if inf(a):
        return (0, 0)
    return signed(way, number(a) - whole_number(way, number(a)), 0)


USED = {0: 2, 1: 2, 2: 2, 3: 2, 4: 1, 13: 1, 14: 1, 15: 2, 16: 1, 17: 1}
FLIPS = {5: (0, 0), 6: (0, 1), 7: (1, 0), 8: (1, 1)}


def numbers_step(op, way, a, b, c):
    if op in FLIPS:
        return fused(way, a, b, c, *FLIPS[op])
    return {
        0: lambda: add(way, a, b), 1: lambda: add(way, a, b ^ 0x8000), 2: lambda: mul(way, a, b),
        3: lambda: div(way, a, b), 4: lambda: root(way, a), 13: lambda: exponent(a), 14: lambda: fraction(a),
        15: lambda: scale(way, a, b), 16: lambda: whole(way, a), 17: lambda: rest(way, a),
    }[op]()


def step(op, way, lane, a, b, c):
    """What a lane raises, and its half."""
    if op in (9, 10):
        op = 6 if (op == 9) == (lane % 2 == 0) else 5
    if op == 11:
        return pick(a, b, less_than)
    if op == 12:
        return pick(a, b, lambda x, y: less_than(y, x))
    used = (a, b, c)[:USED.get(op, 3)]
    if any(nan(half) for half in used):
        return (INVALID if any(signalling(half) for half in used) else 0, NAN)
    return numbers_step(op, way, a, b, c)


def together(answers):
    raised = 0
    for lane_raised, _ in answers:
        raised |= lane_raised
    return [raised] + [told for _, told in answers]


def do(op, way, a, b, c):
    return together([step(op, way, j, a[j], b[j], c[j]) for j in range(32)])


def in_two_steps(way, first_factors, op, last_factors):
    """A product, rounded, then by op 5 or 7 with another one."""
    raised, first = step(2, way, 0, *first_factors, 0)
    raised_again, half = step(op, way, 0, *last_factors, first)
    return (raised | raised_again, half)


def complex_product(other, way, x, x_i, y, y_i):
    if other:
        y_i ^= 0x8000
    return [in_two_steps(way, (x, y), 7, (x_i, y_i)), in_two_steps(way, (x_i, y), 5, (x, y_i))]


def times(other, way, a, b):
    answers = []
    for j in range(0, 32, 2):
        answers += complex_product(other, way, a[j], a[j + 1], b[j], b[j + 1])
    return together(answers)


RANGES = {0: range(-32768, 32768), 1: range(65536)}


def as_whole(kind, way, a):
    if nan(a) or inf(a) or whole_number(way, number(a)) not in RANGES[kind]:
        return (INVALID, (0x8000, 0xFFFF)[kind])
    n = whole_number(way, number(a))
    return (0 if n == number(a) else INEXACT, n % 65536)


def of_whole(kind, way, z):
    return signed(way, Fraction(z if z in RANGES[kind] else z - 65536), 0)


# struct's letters for the wider forms and their bytes, their infinities and quiet bits.
WIDER = {"f": (4, 0x7F800000, 0x00400000), "d": (8, 0x7FF0000000000000, 0x0008000000000000)}


def widened(form, a):
    size, infinity, quiet = WIDER[form]
    if nan(a):
        return (INVALID if signalling(a) else 0, infinity | quiet)
    value = struct.unpack("<e", a.to_bytes(2, "little"))[0]
    return (0, int.from_bytes(struct.pack("<" + form, value), "little"))


def narrowed(form, way, x):
    size, infinity, quiet = WIDER[form]
    sign = x >> (8 * size - 1)
    magnitude = x & (1 << (8 * size - 1)) - 1
    if magnitude > infinity:
        return (0 if magnitude & quiet else INVALID, NAN)
    if magnitude == infinity:
        return (0, bits(sign, INF))
    return rounded(way, sign, Fraction(struct.unpack("<" + form, magnitude.to_bytes(size, "little"))[0]))


def sum_of(way, x):
    """A sum, from 0 on, each step by op 0."""
    raised, total = 0, 0
    for half in x:
        step_raised, total = step(0, way, 0, total, half, 0)
        raised |= step_raised
    return [raised, total]


def poly(way, x, c):
    """From the last coefficient on, by op 2 and then by op 5."""
    if not c:
        return [0, 0]
    raised, value = step(2, way, 0, c[-1], 0x3C00, 0)
    for coefficient in reversed(c[:-1]):
        step_raised, value = step(5, way, 0, value, x, coefficient)
        raised |= step_raised
    return [raised, value]


# Minus infinity, the numbers below 0, -0, 0, the numbers above 0, infinity.
LINED_UP = (*range(MINUS_INF, 0x7FFF, -1), *range(INF + 1))


def order(x):
    """Each half as often as it is there, picked from all of them lined up."""
    counted = Counter(x)
    found = []
    for half in LINED_UP:
        found += [half] * counted[half]
    return [0] + found + [NAN] * (len(x) - len(found))
