"""Point 13, polynomials: from the last coefficient on, that times x plus the next one, rounded once; raised by all."""

import unittest

from halfrowsdesk.lanes import poly
from tests import exact
from tests.rows import INF, MINUS_INF, NAN, ONE, QUIETS, REFUSED, SIGNALLINGS, SIGNED_EDGES, WAYS, some_halves

ZERO, MINUS_ZERO, MINUS_ONE, TWO, MINUS_TWO, THREE = 0, 0x8000, 0xBC00, 0x4000, 0xC000, 0x4200
HALF, ONE_AND_HALF = 0x3800, 0x3E00
GREATEST, MINUS_GREATEST = 0x7BFF, 0xFBFF
# 2048, from where on every other whole number is a half.
FAR, MINUS_FAR = 0x6800, 0xE800


class PolyTests(unittest.TestCase):
    def assert_ways(self, x, c, expected):
        """One expected [raised, half] for each direction, or one for all four."""
        if isinstance(expected[0], int):
            expected = [expected] * 4
        for way in WAYS:
            with self.subTest(way=way, x=hex(x), c=[hex(half) for half in c[:20]], length=len(c)):
                self.assertEqual(poly(way, x, c), expected[way])


class Few(PolyTests):
    def test_no_coefficients(self):
        for x in SIGNED_EDGES:
            self.assert_ways(x, [], [0, 0])

    def test_one_coefficient(self):
        # x does not matter then, not even if it is no number.
        for x in (ZERO, MINUS_ONE, TWO, INF, MINUS_INF, NAN, 0x7C01):
            for half in (0, 1, 0x03FF, 0x0400, ONE, 0x3555, GREATEST, INF):
                self.assert_ways(x, [half], [0, half])
                self.assert_ways(x, [half | 0x8000], [0, half | 0x8000])
            for half in QUIETS:
                self.assert_ways(x, [half], [0, NAN])
            for half in SIGNALLINGS:
                self.assert_ways(x, [half], [1, NAN])

    def test_two_coefficients(self):
        self.assert_ways(THREE, [ONE, TWO], [0, 0x4700])
        self.assert_ways(THREE, [TWO, ONE], [0, 0x4500])
        self.assert_ways(MINUS_TWO, [ONE, THREE], [0, 0xC500])
        self.assert_ways(ZERO, [ONE, THREE], [0, ONE])

    def test_more_coefficients(self):
        self.assert_ways(TWO, [ONE, TWO, THREE], [0, 0x4C40])
        self.assert_ways(TWO, [THREE, TWO, ONE], [0, 0x4980])
        self.assert_ways(MINUS_ONE, [ONE, ONE, ONE, ONE], [[0, 0], [0, 0x8000], [0, 0], [0, 0]])
        self.assert_ways(TWO, [ONE] * 10, [0, 0x63FE])
        self.assert_ways(HALF, [ONE] * 10, [0, 0x3FFE])


class Rounding(PolyTests):
    def test_products_are_not_rounded_by_themselves(self):
        # (1 + 2^-10)^2 less 1 + 2^-9 is 2^-20.
        self.assert_ways(0x3C01, [0xBC02, 0x3C01], [0, 0x0010])
        self.assert_ways(0xBC01, [0x3C02, 0x3C01], [0, 0x8010])
        self.assert_ways(TWO, [MINUS_GREATEST, GREATEST], [0, GREATEST])
        # 2^-48 and 1: inexact, but no underflow.
        self.assert_ways(0x0001, [ONE, 0x0001], [[16, ONE], [16, ONE], [16, 0x3C01], [16, ONE]])

    def test_each_step_is_rounded(self):
        # 2048 + 1, rounded, less 2048.
        self.assert_ways(ONE, [MINUS_FAR, ONE, FAR], [[16, 0], [16, 0x8000], [16, TWO], [16, 0]])
        self.assert_ways(ONE, [ONE, MINUS_FAR, FAR], [0, ONE])

    def test_directions(self):
        # 1 + 2^-11 lies half way, and so does 1 + 3 2^-11.
        self.assert_ways(HALF, [ONE, 0x1400], [[16, 0x3C00], [16, 0x3C00], [16, 0x3C01], [16, 0x3C00]])
        self.assert_ways(HALF, [0x3C01, 0x1400], [[16, 0x3C02], [16, 0x3C01], [16, 0x3C02], [16, 0x3C01]])
        self.assert_ways(HALF, [MINUS_ONE, 0x9400], [[16, 0xBC00], [16, 0xBC01], [16, 0xBC00], [16, 0xBC00]])
        self.assert_ways(0xB800, [0xBC01, 0x1400], [[16, 0xBC02], [16, 0xBC02], [16, 0xBC01], [16, 0xBC01]])

    def test_underflow(self):
        self.assert_ways(HALF, [ZERO, 0x0001], [[24, 0], [24, 0], [24, 1], [24, 0]])
        self.assert_ways(0xB800, [ZERO, 0x0001], [[24, 0x8000], [24, 0x8001], [24, 0x8000], [24, 0x8000]])
        # The step behind it gives a number once more; what was raised stays.
        self.assert_ways(HALF, [ONE, ZERO, 0x0001], [[24, ONE], [24, ONE], [24, 0x3C01], [24, ONE]])

    def test_overflow(self):
        self.assert_ways(TWO, [ZERO, GREATEST], [[20, INF], [20, GREATEST], [20, INF], [20, GREATEST]])
        self.assert_ways(MINUS_TWO, [ZERO, GREATEST],
                         [[20, MINUS_INF], [20, MINUS_INF], [20, MINUS_GREATEST], [20, MINUS_GREATEST]])
        # 65504 + 16 lies half way to 65536.
        self.assert_ways(0x4C00, [GREATEST, ONE], [[20, INF], [16, GREATEST], [20, INF], [16, GREATEST]])
        # Infinity stays, what was cut off goes on.
        self.assert_ways(TWO, [MINUS_GREATEST, GREATEST, GREATEST],
                         [[20, INF], [20, GREATEST], [20, INF], [20, GREATEST]])
        self.assert_ways(ONE, [MINUS_GREATEST, GREATEST, GREATEST], [[20, INF], [20, 0x8000], [20, INF], [20, 0]])


class Zeros(PolyTests):
    def test_signs(self):
        mixed = [[0, 0], [0, 0x8000], [0, 0], [0, 0]]
        self.assert_ways(ONE, [ZERO, ZERO], [0, 0])
        self.assert_ways(ONE, [MINUS_ZERO, MINUS_ZERO], [0, 0x8000])
        self.assert_ways(MINUS_ONE, [MINUS_ZERO, ZERO], [0, 0x8000])
        self.assert_ways(MINUS_ONE, [ZERO, MINUS_ZERO], [0, 0])
        self.assert_ways(ONE, [MINUS_ZERO, ZERO], mixed)
        self.assert_ways(ONE, [ZERO, MINUS_ZERO], mixed)
        self.assert_ways(MINUS_ONE, [ZERO, ZERO], mixed)
        self.assert_ways(MINUS_ZERO, [ZERO, ONE], mixed)
        self.assert_ways(MINUS_ZERO, [MINUS_ZERO, ONE], [0, 0x8000])
        self.assert_ways(MINUS_ZERO, [ZERO, MINUS_ONE], [0, 0])

    def test_sums_that_are_exactly_0(self):
        for c in ([MINUS_TWO, TWO], [TWO, MINUS_TWO]):
            self.assert_ways(ONE, c, [[0, 0], [0, 0x8000], [0, 0], [0, 0]])
            # In direction 1 the next step starts from -0: -0 times 1 plus -0.
            self.assert_ways(ONE, [MINUS_ZERO] + c, [[0, 0], [0, 0x8000], [0, 0], [0, 0]])
            # 0 times -1 is -0 (0 in direction 1); the sign of what is added tells then.
            self.assert_ways(MINUS_ONE, [MINUS_ZERO, c[0], c[0]], [0, 0x8000])
            self.assert_ways(MINUS_ONE, [ZERO, c[0], c[0]], [0, 0])


class Infinities(PolyTests):
    def test_infinite_coefficients(self):
        self.assert_ways(TWO, [ONE, INF], [0, INF])
        self.assert_ways(MINUS_TWO, [ONE, INF], [0, MINUS_INF])
        self.assert_ways(MINUS_TWO, [ONE, INF, ONE], [0, MINUS_INF])
        self.assert_ways(TWO, [MINUS_INF, GREATEST], [0, MINUS_INF])

    def test_infinite_x(self):
        self.assert_ways(INF, [ONE, TWO, THREE], [0, INF])
        self.assert_ways(MINUS_INF, [ONE, TWO, THREE], [0, INF])
        self.assert_ways(MINUS_INF, [ONE, TWO], [0, MINUS_INF])

    def test_zero_times_infinity(self):
        for x, c in ((INF, [ONE, ZERO]), (MINUS_INF, [ONE, MINUS_ZERO]), (ZERO, [ONE, INF]), (MINUS_ZERO, [ONE, INF]),
                     (INF, [ONE, TWO, ZERO]), (ZERO, [ONE, INF, TWO]), (ZERO, [ONE, TWO, INF])):
            self.assert_ways(x, c, [1, NAN])

    def test_unlike_infinities(self):
        self.assert_ways(MINUS_ONE, [INF, INF], [1, NAN])
        self.assert_ways(INF, [MINUS_INF, ONE], [1, NAN])
        self.assert_ways(INF, [INF, ONE], [0, INF])
        self.assert_ways(INF, [ONE, MINUS_INF, ONE], [1, NAN])

    def test_an_overflow_makes_an_infinity(self):
        c = [MINUS_INF, GREATEST, GREATEST]
        self.assert_ways(TWO, c, [[21, NAN], [20, MINUS_INF], [21, NAN], [20, MINUS_INF]])


class NoNumbers(PolyTests):
    def test_x(self):
        for c in ([ONE, TWO], [ONE, TWO, THREE], [ZERO, ZERO]):
            for x in QUIETS:
                self.assert_ways(x, c, [0, NAN])
            for x in SIGNALLINGS:
                self.assert_ways(x, c, [1, NAN])

    def test_coefficients(self):
        for at in range(4):
            for half in QUIETS:
                c = [ONE, TWO, THREE, ONE]
                c[at] = half
                self.assert_ways(TWO, c, [0, NAN])
            for half in SIGNALLINGS:
                c = [ONE, TWO, THREE, ONE]
                c[at] = half
                self.assert_ways(TWO, c, [1, NAN])

    def test_signalling_behind_a_quiet_one(self):
        self.assert_ways(TWO, [0x7C01, ONE, NAN], [1, NAN])
        self.assert_ways(TWO, [NAN, ONE, 0x7C01], [1, NAN])
        self.assert_ways(0x7C01, [NAN, NAN], [1, NAN])

    def test_nothing_is_raised_behind_a_quiet_one(self):
        self.assert_ways(INF, [MINUS_INF, INF, ZERO, ZERO, NAN], [0, NAN])
        self.assert_ways(GREATEST, [GREATEST, GREATEST, NAN], [0, NAN])

    def test_what_was_raised_ahead_stays(self):
        self.assert_ways(TWO, [NAN, GREATEST, GREATEST], [20, NAN])
        self.assert_ways(HALF, [NAN, ZERO, 0x0001], [24, NAN])
        self.assert_ways(ONE, [0x7C01, ONE, FAR], [17, NAN])


class Together(PolyTests):
    def test_all_steps_raise_together(self):
        # 1.5 2^-24 underflows, 65504 and a little is inexact, 2.5 times 65504 overflows.
        c = [GREATEST, GREATEST, ZERO, 0x0001]
        self.assert_ways(ONE_AND_HALF, c, [[28, INF], [28, GREATEST], [28, INF], [28, GREATEST]])
        self.assert_ways(ONE_AND_HALF, c[1:], [[24, GREATEST], [24, GREATEST], [28, INF], [24, GREATEST]])
        self.assert_ways(ONE_AND_HALF, [MINUS_INF] + c, [[29, NAN], [28, MINUS_INF], [29, NAN], [28, MINUS_INF]])
        self.assert_ways(ONE_AND_HALF, [0xFC01] + c, [29, NAN])

    def test_the_first_step_raises(self):
        self.assert_ways(TWO, [ONE, ONE, 0x7C01], [1, NAN])

    def test_the_last_step_raises(self):
        self.assert_ways(ONE, [0x1000, ONE], [[16, 0x3C00], [16, 0x3C00], [16, 0x3C01], [16, 0x3C00]])
        self.assert_ways(ONE, [0x1000, ZERO, ZERO, ONE], [[16, 0x3C00], [16, 0x3C00], [16, 0x3C01], [16, 0x3C00]])


class LongLists(PolyTests):
    def test_61000(self):
        self.assert_ways(ONE, [ONE] * 61000, [[16, FAR], [16, FAR], [20, INF], [16, FAR]])
        self.assert_ways(TWO, [ONE] + [ZERO] * 60999, [0, ONE])
        self.assert_ways(ONE, [ZERO] * 60999 + [ONE], [0, ONE])
        self.assert_ways(MINUS_ONE, [MINUS_ZERO] * 60999 + [ONE], [0, MINUS_ONE])
        self.assert_ways(HALF, [ZERO] * 60999 + [ONE], [[24, 0], [24, 0], [24, 1], [24, 0]])
        self.assert_ways(HALF, [ONE] * 60999 + [0x7C01], [1, NAN])

    def test_61000_against_the_exact_numbers(self):
        # x is below 1 and the coefficients are below 2 in magnitude: so the steps' answers stay numbers.
        c = [half & 0xBFFF for half in some_halves(61000, 41)]
        for way, x in zip(WAYS, (0xB801, 0x3BFE, 0x3955, 0xBBFF)):
            self.assertEqual(poly(way, x, c), exact.poly(way, x, c))

    def test_65536_are_taken(self):
        self.assert_ways(TWO, [ONE] + [ZERO] * 65535, [0, ONE])
        self.assert_ways(ONE, [ZERO] * 65535 + [ONE], [0, ONE])


class Refused(PolyTests):
    def test_way(self):
        for way in (4, 5, 256, 4294967295):
            for c in ([], [ONE], [0x7C01, NAN], [ONE] * 65537):
                for x in (ONE, 0x7C01):
                    self.assertEqual(poly(way, x, c), [REFUSED, 0])

    def test_too_long(self):
        for length in (65537, 65538, 70000):
            self.assert_ways(ONE, [ONE] * length, [REFUSED, 0])
            self.assert_ways(0x7C01, [0x7C01] * length, [REFUSED, 0])


class AgainstExact(unittest.TestCase):
    def assert_exact(self, x, c):
        for way in WAYS:
            self.assertEqual(poly(way, x, c), exact.poly(way, x, c), (way, hex(x), [hex(half) for half in c]))

    def test_edges(self):
        for x in SIGNED_EDGES:
            for half in SIGNED_EDGES:
                self.assert_exact(x, [half])
                for other in SIGNED_EDGES[::9]:
                    self.assert_exact(x, [other, half])
                self.assert_exact(x, [0xBC01, half, GREATEST])

    def test_halves_from_all_over(self):
        for turn in range(200):
            x, *c = some_halves(1 + turn % 12, turn)
            self.assert_exact(x, c)

    def test_answers_that_stay_numbers(self):
        for turn in range(200):
            x, *c = [half & 0xBFFF for half in some_halves(3 + turn % 40, 700 + turn)]
            self.assert_exact(x, c)
