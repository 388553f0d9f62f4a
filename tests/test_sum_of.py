"""Point 13, sums: from 0 on, each half added in order, each sum rounded; raised by all steps."""

import unittest

from halfrowsdesk.lanes import sum_of
from tests import exact
from tests.rows import INF, MINUS_INF, NAN, ONE, QUIETS, REFUSED, SIGNALLINGS, SIGNED_EDGES, WAYS, some_halves

ZERO, MINUS_ZERO, MINUS_ONE, TWO = 0, 0x8000, 0xBC00, 0x4000
GREATEST = 0x7BFF
# 2048, from where on every other whole number is a half.
FAR = 0x6800


class SumTests(unittest.TestCase):
    def assert_ways(self, x, expected):
        """One expected [raised, half] for each direction, or one for all four."""
        if isinstance(expected[0], int):
            expected = [expected] * 4
        for way in WAYS:
            with self.subTest(way=way, x=[hex(half) for half in x[:20]], length=len(x)):
                self.assertEqual(sum_of(way, x), expected[way])


class Sums(SumTests):
    def test_of_nothing(self):
        self.assert_ways([], [0, 0])

    def test_of_one(self):
        for half in (0x0001, 0x83FF, 0x0400, ONE, MINUS_ONE, 0x3555, GREATEST, 0xFBFF, INF, MINUS_INF):
            self.assert_ways([half], [0, half])

    def test_ordinary(self):
        self.assert_ways([ONE, TWO, 0x4200], [0, 0x4600])
        self.assert_ways([ONE, TWO, 0x4200, 0xC700], [0, 0xBC00])
        self.assert_ways([ONE] * 2048, [0, FAR])
        self.assert_ways([0x0001] * 1024, [0, 0x0400])
        self.assert_ways([0x83FF, 0x8001, 0x0400, 0x8001], [0, 0x8001])

    def test_each_sum_is_rounded(self):
        # 1 + 2^-11 lies half way: added twice, it is lost twice or counts twice.
        self.assert_ways([ONE, 0x1000, 0x1000], [[16, 0x3C00], [16, 0x3C00], [16, 0x3C02], [16, 0x3C00]])
        self.assert_ways([0x1000, 0x1000, ONE], [0, 0x3C01])
        self.assert_ways([MINUS_ONE, 0x9000, 0x9000], [[16, 0xBC00], [16, 0xBC02], [16, 0xBC00], [16, 0xBC00]])
        self.assert_ways([FAR] + [ONE] * 3, [[16, 0x6800], [16, 0x6800], [16, 0x6803], [16, 0x6800]])

    def test_ties_go_to_the_even_one(self):
        self.assertEqual(sum_of(0, [FAR, ONE]), [16, 0x6800])
        self.assertEqual(sum_of(0, [FAR, TWO, ONE]), [16, 0x6802])
        self.assertEqual(sum_of(0, [FAR, TWO, ONE, ONE]), [16, 0x6802])

    def test_the_order_matters(self):
        self.assert_ways([FAR, ONE, ONE], [[16, 0x6800], [16, 0x6800], [16, 0x6802], [16, 0x6800]])
        self.assert_ways([ONE, ONE, FAR], [0, 0x6801])
        self.assert_ways([ONE, FAR, 0xE800], [[16, 0], [16, 0x8000], [16, TWO], [16, 0]])
        self.assert_ways([FAR, 0xE800, ONE], [0, ONE])


class Zeros(SumTests):
    def test_of_minus_zeros(self):
        # From 0 on: the first of them meets 0, which has another sign.
        for count in (1, 2, 7):
            self.assert_ways([MINUS_ZERO] * count, [[0, 0], [0, 0x8000], [0, 0], [0, 0]])

    def test_of_zeros(self):
        for count in (1, 2, 7):
            self.assert_ways([ZERO] * count, [0, 0])

    def test_of_both(self):
        for x in ([MINUS_ZERO, ZERO], [ZERO, MINUS_ZERO], [ZERO, ZERO, MINUS_ZERO], [MINUS_ZERO, ZERO, ZERO]):
            self.assert_ways(x, [[0, 0], [0, 0x8000], [0, 0], [0, 0]])

    def test_sums_that_are_exactly_0(self):
        for half in (0x0001, 0x0400, ONE, 0x3555, GREATEST):
            for x in ([half, half | 0x8000], [half | 0x8000, half]):
                self.assert_ways(x, [[0, 0], [0, 0x8000], [0, 0], [0, 0]])
                self.assert_ways(x + [ZERO], [[0, 0], [0, 0x8000], [0, 0], [0, 0]])
                self.assert_ways(x + [MINUS_ZERO], [[0, 0], [0, 0x8000], [0, 0], [0, 0]])
                self.assert_ways(x + [TWO], [0, TWO])


class Beyond(SumTests):
    def test_overflow_in_the_middle(self):
        # 65504 twice, then less 65504: infinity stays, what was cut off goes on.
        self.assert_ways([GREATEST, GREATEST, 0xFBFF], [[20, INF], [20, 0x8000], [20, INF], [20, 0]])
        self.assert_ways([0xFBFF, 0xFBFF, GREATEST], [[20, MINUS_INF], [20, MINUS_INF], [20, 0], [20, 0]])
        self.assert_ways([GREATEST, GREATEST, ONE], [[20, INF], [20, GREATEST], [20, INF], [20, GREATEST]])

    def test_just_overflow(self):
        # 65504 + 16 lies half way to 65536.
        self.assert_ways([GREATEST, 0x4C00], [[20, INF], [16, GREATEST], [20, INF], [16, GREATEST]])
        self.assert_ways([GREATEST, 0x4BFF], [[16, GREATEST], [16, GREATEST], [20, INF], [16, GREATEST]])
        self.assert_ways([GREATEST, 0x5000], [[20, INF], [20, GREATEST], [20, INF], [20, GREATEST]])

    def test_infinities(self):
        self.assert_ways([INF, INF, ONE], [0, INF])
        self.assert_ways([ONE, MINUS_INF, GREATEST, MINUS_INF], [0, MINUS_INF])
        self.assert_ways([INF, 0xFBFF, 0xFBFF], [0, INF])

    def test_infinities_of_unlike_signs(self):
        for x in ([INF, MINUS_INF], [MINUS_INF, INF], [ONE, INF, TWO, MINUS_INF, ONE], [INF, INF, MINUS_INF, INF]):
            self.assert_ways(x, [1, NAN])

    def test_an_overflow_makes_an_infinity(self):
        self.assert_ways([GREATEST, GREATEST, MINUS_INF], [[21, NAN], [20, MINUS_INF], [21, NAN], [20, MINUS_INF]])
        self.assert_ways([0xFBFF, 0xFBFF, INF], [[21, NAN], [21, NAN], [20, INF], [20, INF]])


class NoNumbers(SumTests):
    def at_each_place(self, half):
        return ([half], [half, ONE, TWO], [ONE, half, TWO], [ONE, TWO, half], [half, half])

    def test_quiet(self):
        for half in QUIETS:
            for x in self.at_each_place(half):
                self.assert_ways(x, [0, NAN])

    def test_signalling(self):
        for half in SIGNALLINGS:
            for x in self.at_each_place(half):
                self.assert_ways(x, [1, NAN])

    def test_signalling_behind_a_quiet_one(self):
        for x in ([NAN, 0x7C01], [0x7C01, NAN], [ONE, 0xFE00, TWO, 0xFC01, ONE]):
            self.assert_ways(x, [1, NAN])

    def test_nothing_is_raised_behind_no_number(self):
        self.assert_ways([NAN, INF, MINUS_INF, GREATEST, GREATEST, ONE, 0x1000], [0, NAN])

    def test_what_was_raised_ahead_of_no_number_stays(self):
        self.assert_ways([ONE, 0x1000, NAN], [16, NAN])
        self.assert_ways([GREATEST, GREATEST, NAN], [20, NAN])
        self.assert_ways([ONE, 0x1000, 0x7C01], [17, NAN])


class Together(SumTests):
    def test_the_first_and_the_last_step_raise(self):
        self.assert_ways([ONE, 0x1000] + [ZERO] * 3, [[16, 0x3C00], [16, 0x3C00], [16, 0x3C01], [16, 0x3C00]])
        self.assert_ways([ZERO] * 3 + [ONE, 0x1000], [[16, 0x3C00], [16, 0x3C00], [16, 0x3C01], [16, 0x3C00]])

    def test_all_steps_raise_together(self):
        # Inexact; then an overflow; then invalid, where that was infinite.
        x = [ONE, 0x1000, GREATEST, GREATEST, MINUS_INF, TWO]
        self.assert_ways(x, [[21, NAN], [20, MINUS_INF], [21, NAN], [20, MINUS_INF]])
        self.assert_ways(x + [INF], [21, NAN])
        self.assert_ways(x + [NAN, 0x7C01], [21, NAN])

    def test_no_sum_underflows(self):
        # Both are whole in 2^-24, and so is the sum.
        for a in (0x0001, 0x03FF, 0x0400, 0x0401, 0x07FF):
            for b in (0x8001, 0x83FF, 0x8400, 0x8401, 0x87FF):
                for way in WAYS:
                    self.assertEqual(sum_of(way, [a, b])[0], 0)


class LongLists(SumTests):
    def test_61000(self):
        self.assert_ways([ONE] * 61000, [[16, FAR], [16, FAR], [20, INF], [16, FAR]])
        self.assert_ways([0x0001] * 61000, [[16, 0x0800], [16, 0x0800], [20, INF], [16, 0x0800]])
        self.assert_ways([ZERO] * 60999 + [ONE], [0, ONE])
        self.assert_ways([ONE, MINUS_ONE] * 30500, [[0, 0], [0, 0x8000], [0, 0], [0, 0]])
        self.assert_ways([0x7C01] + [ONE] * 60999, [1, NAN])

    def test_61000_against_the_exact_numbers(self):
        # All below 2, so that the sums stay numbers for long.
        x = [half & 0xBFFF for half in some_halves(61000, 31)]
        for way in WAYS:
            self.assertEqual(sum_of(way, x), exact.sum_of(way, x))

    def test_65536_are_taken(self):
        self.assert_ways([ONE] + [ZERO] * 65535, [0, ONE])
        self.assert_ways([ZERO] * 65535 + [ONE], [0, ONE])


class Refused(SumTests):
    def test_way(self):
        for way in (4, 5, 256, 4294967295):
            for x in ([], [ONE], [0x7C01, NAN], [ONE] * 65537):
                self.assertEqual(sum_of(way, x), [REFUSED, 0])

    def test_too_long(self):
        for length in (65537, 65538, 70000):
            self.assert_ways([ONE] * length, [REFUSED, 0])
            self.assert_ways([0x7C01] * length, [REFUSED, 0])


class AgainstExact(unittest.TestCase):
    def assert_exact(self, x):
        for way in WAYS:
            self.assertEqual(sum_of(way, x), exact.sum_of(way, x), (way, [hex(half) for half in x]))

    def test_pairs_and_triples_of_edges(self):
        for a in SIGNED_EDGES:
            for b in SIGNED_EDGES:
                self.assert_exact([a, b])
                for c in (0x8000, 0xBC01, GREATEST, MINUS_INF):
                    self.assert_exact([a, b, c])

    def test_halves_from_all_over(self):
        for turn in range(200):
            self.assert_exact(some_halves(turn % 40, turn))

    def test_sums_that_stay_numbers(self):
        for turn in range(200):
            self.assert_exact([half & 0xBFFF for half in some_halves(50 + turn % 40, 500 + turn)])
