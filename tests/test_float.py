"""Point 12, floats: sixteen halves as floats, and floats as halves."""

import unittest

from halfrowsdesk.lanes import of_float, to_float
from tests.rows import INF, NAN, ONE
from tests.wider import Form, Narrowing, NarrowingAgainstExact, Widening

FLOAT_ONE, FLOAT_INF, FLOAT_NAN = 0x3F800000, 0x7F800000, 0x7FC00000
FLOATS = Form(letter="f", lanes=16, sign=0x80000000, one=FLOAT_ONE, widen=to_float, narrow=of_float)


class ToFloat(Widening, unittest.TestCase):
    form = FLOATS

    def test_numbers(self):
        self.assert_both_signs((
            (0, 0), (ONE, FLOAT_ONE), (0x4000, 0x40000000), (0x4200, 0x40400000), (0x3555, 0x3EAAA000),
            (0x0400, 0x38800000), (0x0401, 0x38802000), (0x7BFF, 0x477FE000), (INF, FLOAT_INF),
        ))

    def test_denormals(self):
        self.assert_both_signs((
            (1, 0x33800000), (2, 0x34000000), (3, 0x34400000), (0x0200, 0x38000000), (0x03FF, 0x387FC000),
        ))

    def test_all_lanes_together(self):
        self.assertEqual(to_float([0x7C01, ONE, NAN] + [0] * 13), [1, FLOAT_NAN, FLOAT_ONE, FLOAT_NAN] + [0] * 13)


class OfFloat(Narrowing, unittest.TestCase):
    form = FLOATS

    def test_exact(self):
        for bits, half in (
            (0, 0), (FLOAT_ONE, ONE), (0x40400000, 0x4200), (0x3F802000, 0x3C01), (0x477FE000, 0x7BFF),
            (0x38800000, 0x0400), (0x387FC000, 0x03FF), (0x38000000, 0x0200), (0x33800000, 0x0001),
            (0x34400000, 0x0003), (FLOAT_INF, INF),
        ):
            self.assert_both_signs(bits, [(0, half)] * 4)

    def test_ties_and_their_neighbours(self):
        # 1 + 2^-11 and 1 + 3 2^-11 lie half way.
        self.assert_both_signs(0x3F801000, [(16, 0x3C00), (16, 0x3C00), (16, 0x3C01), (16, 0x3C00)])
        self.assert_both_signs(0x3F803000, [(16, 0x3C02), (16, 0x3C01), (16, 0x3C02), (16, 0x3C01)])
        self.assert_both_signs(0x3F800FFF, [(16, 0x3C00), (16, 0x3C00), (16, 0x3C01), (16, 0x3C00)])
        self.assert_both_signs(0x3F801001, [(16, 0x3C01), (16, 0x3C00), (16, 0x3C01), (16, 0x3C00)])
        self.assert_both_signs(0x3F7FFFFF, [(16, 0x3C00), (16, 0x3BFF), (16, 0x3C00), (16, 0x3BFF)])

    def test_overflow(self):
        # 65504 and a little, 65520 and a little less, 65520, 65536, the greatest float.
        for bits in (0x477FE001, 0x477FEFFF):
            self.assert_both_signs(bits, [(16, 0x7BFF), (16, 0x7BFF), (20, INF), (16, 0x7BFF)])
        for bits in (0x477FF000, 0x477FFFFF):
            self.assert_both_signs(bits, [(20, INF), (16, 0x7BFF), (20, INF), (16, 0x7BFF)])
        for bits in (0x47800000, 0x47800001, 0x4B800000, 0x60000000, 0x7F7FFFFF):
            self.assert_both_signs(bits, [(20, INF), (20, 0x7BFF), (20, INF), (20, 0x7BFF)])

    def test_underflow(self):
        tiny = [(24, 0), (24, 0), (24, 1), (24, 0)]
        # Denormal floats, the least normal one, and what is up to half of the least half.
        for bits in (0x00000001, 0x00400000, 0x007FFFFF, 0x00800000, 0x20000000, 0x32FFFFFF, 0x33000000):
            self.assert_both_signs(bits, tiny)
        self.assert_both_signs(0x33000001, [(24, 1), (24, 0), (24, 1), (24, 0)])
        self.assert_both_signs(0x33C00000, [(24, 2), (24, 1), (24, 2), (24, 1)])
        self.assert_both_signs(0x34200000, [(24, 2), (24, 2), (24, 3), (24, 2)])
        self.assert_both_signs(0x387FC001, [(24, 0x03FF), (24, 0x03FF), (24, 0x0400), (24, 0x03FF)])

    def test_just_below_the_least_normal(self):
        # 2^-14 - 2^-25 has eleven bits and stays below 2^-14.
        self.assert_both_signs(0x387FE000, [(24, 0x0400), (24, 0x03FF), (24, 0x0400), (24, 0x03FF)])
        # A little more goes up to 2^-14 with eleven bits, where up is the direction.
        self.assert_both_signs(0x387FE001, [(24, 0x0400), (24, 0x03FF), (16, 0x0400), (24, 0x03FF)])
        self.assert_both_signs(0x387FEFFF, [(24, 0x0400), (24, 0x03FF), (16, 0x0400), (24, 0x03FF)])
        # From half way on it does so to the nearest, too.
        self.assert_both_signs(0x387FF000, [(16, 0x0400), (24, 0x03FF), (16, 0x0400), (24, 0x03FF)])
        self.assert_both_signs(0x387FFFFF, [(16, 0x0400), (24, 0x03FF), (16, 0x0400), (24, 0x03FF)])

    def test_inexact_without_underflow(self):
        self.assert_both_signs(0x38800001, [(16, 0x0400), (16, 0x0400), (16, 0x0401), (16, 0x0400)])
        self.assert_both_signs(0x38801001, [(16, 0x0401), (16, 0x0400), (16, 0x0401), (16, 0x0400)])

    def test_no_numbers(self):
        self.assert_no_numbers(
            quiets=(0x7FC00000, 0x7FC00001, 0x7FFFFFFF, 0x7FE00000),
            signallings=(0x7F800001, 0x7FBFFFFF, 0x7FA00000, 0x7F802000),
        )

    def test_lanes_raise_together(self):
        self.assert_lanes_raise_together(0x7F800001, 0x47800000, 0x00000001, 0x3F801000)


class OfFloatAgainstExact(NarrowingAgainstExact, unittest.TestCase):
    form = FLOATS
