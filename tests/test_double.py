"""Point 12, doubles: eight halves as doubles, and doubles as halves."""

import unittest

from halfrowsdesk.lanes import of_double, to_double
from tests.rows import INF, NAN, ONE
from tests.wider import Form, Narrowing, NarrowingAgainstExact, Widening

DOUBLE_ONE, DOUBLE_INF, DOUBLE_NAN = 0x3FF0000000000000, 0x7FF0000000000000, 0x7FF8000000000000
DOUBLES = Form(letter="d", lanes=8, sign=0x8000000000000000, one=DOUBLE_ONE, widen=to_double, narrow=of_double)


class ToDouble(Widening, unittest.TestCase):
    form = DOUBLES

    def test_numbers(self):
        self.assert_both_signs((
            (0, 0), (ONE, DOUBLE_ONE), (0x4000, 0x4000000000000000), (0x4200, 0x4008000000000000),
            (0x3555, 0x3FD5540000000000), (0x0400, 0x3F10000000000000), (0x0401, 0x3F10040000000000),
            (0x7BFF, 0x40EFFC0000000000), (INF, DOUBLE_INF),
        ))

    def test_denormals(self):
        self.assert_both_signs((
            (1, 0x3E70000000000000), (2, 0x3E80000000000000), (3, 0x3E88000000000000), (0x0200, 0x3F00000000000000),
            (0x03FF, 0x3F0FF80000000000),
        ))

    def test_all_lanes_together(self):
        self.assertEqual(to_double([0x7C01, ONE, NAN, 0, 0, 0x8000, INF, ONE]),
                         [1, DOUBLE_NAN, DOUBLE_ONE, DOUBLE_NAN, 0, 0, 1 << 63, DOUBLE_INF, DOUBLE_ONE])


class OfDouble(Narrowing, unittest.TestCase):
    form = DOUBLES

    def test_exact(self):
        for bits, half in (
            (0, 0), (DOUBLE_ONE, ONE), (0x4008000000000000, 0x4200), (0x3FF0040000000000, 0x3C01),
            (0x40EFFC0000000000, 0x7BFF), (0x3F10000000000000, 0x0400), (0x3F0FF80000000000, 0x03FF),
            (0x3F00000000000000, 0x0200), (0x3E70000000000000, 0x0001), (0x3E88000000000000, 0x0003),
            (DOUBLE_INF, INF),
        ):
            self.assert_both_signs(bits, [(0, half)] * 4)

    def test_ties(self):
        # 1 + 2^-11 and 1 + 3 2^-11 lie half way.
        self.assert_both_signs(0x3FF0020000000000, [(16, 0x3C00), (16, 0x3C00), (16, 0x3C01), (16, 0x3C00)])
        self.assert_both_signs(0x3FF0060000000000, [(16, 0x3C02), (16, 0x3C01), (16, 0x3C02), (16, 0x3C01)])

    def test_just_beside_a_tie(self):
        # No float lies between these and the tie: rounded to floats first, they would be ties.
        self.assert_both_signs(0x3FF001FFFFFFFFFF, [(16, 0x3C00), (16, 0x3C00), (16, 0x3C01), (16, 0x3C00)])
        self.assert_both_signs(0x3FF0020000000001, [(16, 0x3C01), (16, 0x3C00), (16, 0x3C01), (16, 0x3C00)])
        self.assert_both_signs(0x3FF005FFFFFFFFFF, [(16, 0x3C01), (16, 0x3C01), (16, 0x3C02), (16, 0x3C01)])
        self.assert_both_signs(0x3FF0060000000001, [(16, 0x3C02), (16, 0x3C01), (16, 0x3C02), (16, 0x3C01)])

    def test_just_beside_a_half(self):
        self.assert_both_signs(0x3FF0000000000001, [(16, 0x3C00), (16, 0x3C00), (16, 0x3C01), (16, 0x3C00)])
        self.assert_both_signs(0x3FEFFFFFFFFFFFFF, [(16, 0x3C00), (16, 0x3BFF), (16, 0x3C00), (16, 0x3BFF)])

    def test_overflow(self):
        # 65504 and a little, 65520 and a little less, 65520, 65536, the greatest double.
        for bits in (0x40EFFC0000000001, 0x40EFFDFFFFFFFFFF):
            self.assert_both_signs(bits, [(16, 0x7BFF), (16, 0x7BFF), (20, INF), (16, 0x7BFF)])
        for bits in (0x40EFFE0000000000, 0x40EFFFFFFFFFFFFF):
            self.assert_both_signs(bits, [(20, INF), (16, 0x7BFF), (20, INF), (16, 0x7BFF)])
        for bits in (0x40F0000000000000, 0x40F0000000000001, 0x47EFFFFFFFFFFFFF, 0x47F0000000000000,
                     0x6000000000000000, 0x7FEFFFFFFFFFFFFF):
            self.assert_both_signs(bits, [(20, INF), (20, 0x7BFF), (20, INF), (20, 0x7BFF)])

    def test_underflow(self):
        # Denormal doubles, the least normal one, and what is up to half of the least half.
        for bits in (0x0000000000000001, 0x0008000000000000, 0x000FFFFFFFFFFFFF, 0x0010000000000000,
                     0x3690000000000000, 0x3E5FFFFFFFFFFFFF, 0x3E60000000000000):
            self.assert_both_signs(bits, [(24, 0), (24, 0), (24, 1), (24, 0)])
        self.assert_both_signs(0x3E60000000000001, [(24, 1), (24, 0), (24, 1), (24, 0)])
        self.assert_both_signs(0x3E78000000000000, [(24, 2), (24, 1), (24, 2), (24, 1)])
        self.assert_both_signs(0x3E84000000000000, [(24, 2), (24, 2), (24, 3), (24, 2)])
        self.assert_both_signs(0x3F0FF80000000001, [(24, 0x03FF), (24, 0x03FF), (24, 0x0400), (24, 0x03FF)])

    def test_just_below_the_least_normal(self):
        # 2^-14 - 2^-25 has eleven bits and stays below 2^-14.
        self.assert_both_signs(0x3F0FFC0000000000, [(24, 0x0400), (24, 0x03FF), (24, 0x0400), (24, 0x03FF)])
        # A little more goes up to 2^-14 with eleven bits, where up is the direction.
        for bits in (0x3F0FFC0000000001, 0x3F0FFDFFFFFFFFFF):
            self.assert_both_signs(bits, [(24, 0x0400), (24, 0x03FF), (16, 0x0400), (24, 0x03FF)])
        # From half way on it does so to the nearest, too.
        for bits in (0x3F0FFE0000000000, 0x3F0FFFFFFFFFFFFF):
            self.assert_both_signs(bits, [(16, 0x0400), (24, 0x03FF), (16, 0x0400), (24, 0x03FF)])

    def test_inexact_without_underflow(self):
        self.assert_both_signs(0x3F10000000000001, [(16, 0x0400), (16, 0x0400), (16, 0x0401), (16, 0x0400)])
        self.assert_both_signs(0x3F10020000000001, [(16, 0x0401), (16, 0x0400), (16, 0x0401), (16, 0x0400)])

    def test_no_numbers(self):
        self.assert_no_numbers(
            quiets=(0x7FF8000000000000, 0x7FF8000000000001, 0x7FFFFFFFFFFFFFFF, 0x7FFC000000000000),
            signallings=(0x7FF0000000000001, 0x7FF7FFFFFFFFFFFF, 0x7FF4000000000000, 0x7FF0000100000000),
        )

    def test_lanes_raise_together(self):
        self.assert_lanes_raise_together(0x7FF0000000000001, 0x40F0000000000000, 1, 0x3FF0020000000000)


class OfDoubleAgainstExact(NarrowingAgainstExact, unittest.TestCase):
    form = DOUBLES
