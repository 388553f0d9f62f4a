"""Point 12, floats: sixteen halves as floats, and floats as halves."""

import struct
import unittest

from halfrowsdesk.lanes import of_float, to_float
from tests import exact
from tests.rows import INF, MINUS_INF, NAN, ONE, QUIETS, REFUSED, SIGNALLINGS, SIGNED_EDGES, WAYS, row, some_halves

FLOAT_ONE, FLOAT_INF, FLOAT_NAN = 0x3F800000, 0x7F800000, 0x7FC00000
FLOAT_SIGN = 0x80000000
LANES_TRIED = (0, 1, 9, 15)
NO = (1, NAN)


def floats(at=None):
    return row(at, fill=FLOAT_ONE, lanes=16)


def halves(at=None):
    return row(at, lanes=16)


def float_bits(number):
    return int.from_bytes(struct.pack("<f", number), "little")


class ToFloat(unittest.TestCase):
    def assert_float(self, half, expected):
        for lane in LANES_TRIED:
            with self.subTest(half=hex(half), lane=lane):
                answer = to_float(halves({lane: half}))
                self.assertEqual((answer[0], answer[1 + lane]), expected)
                self.assertEqual(answer[1:1 + lane] + answer[2 + lane:], [FLOAT_ONE] * 15)

    def test_numbers(self):
        for half, bits in (
            (0, 0), (ONE, FLOAT_ONE), (0x4000, 0x40000000), (0x4200, 0x40400000), (0x3555, 0x3EAAA000),
            (0x0400, 0x38800000), (0x0401, 0x38802000), (0x7BFF, 0x477FE000), (INF, FLOAT_INF),
        ):
            self.assert_float(half, (0, bits))
            self.assert_float(half | 0x8000, (0, bits | FLOAT_SIGN))

    def test_denormals(self):
        for half, bits in ((1, 0x33800000), (2, 0x34000000), (3, 0x34400000), (0x0200, 0x38000000),
                           (0x03FF, 0x387FC000)):
            self.assert_float(half, (0, bits))
            self.assert_float(half | 0x8000, (0, bits | FLOAT_SIGN))

    def test_no_numbers(self):
        for quiet in QUIETS:
            self.assert_float(quiet, (0, FLOAT_NAN))
        for signalling in SIGNALLINGS:
            self.assert_float(signalling, (1, FLOAT_NAN))

    def test_all_lanes_together(self):
        self.assertEqual(to_float([0x7C01, ONE, NAN] + [0] * 13), [1, FLOAT_NAN, FLOAT_ONE, FLOAT_NAN] + [0] * 13)

    def test_every_half_against_the_exact_numbers(self):
        for first in range(0, 65536, 16):
            row_of_halves = list(range(first, first + 16))
            answers = [exact.widened("f", half) for half in row_of_halves]
            self.assertEqual(to_float(row_of_halves), exact.together(answers))

    def test_there_and_back(self):
        for first in range(0, 65536, 16):
            row_of_halves = [half for half in range(first, first + 16)]
            if not any(exact.nan(half) for half in row_of_halves):
                for way in WAYS:
                    self.assertEqual(of_float(way, to_float(row_of_halves)[1:]), [0] + row_of_halves)


class OfFloat(unittest.TestCase):
    def assert_ways(self, bits, expected):
        """One expected (raised, half) for each direction, or one for all four."""
        if isinstance(expected, tuple):
            expected = [expected] * 4
        for way in WAYS:
            for lane in LANES_TRIED:
                with self.subTest(way=way, bits=hex(bits), lane=lane):
                    answer = of_float(way, floats({lane: bits}))
                    self.assertEqual((answer[0], answer[1 + lane]), expected[way])
                    self.assertEqual(answer[1:1 + lane] + answer[2 + lane:], [ONE] * 15)

    def assert_both_signs(self, bits, expected):
        """As assert_ways, and the like below 0: there down and up change places."""
        self.assert_ways(bits, expected)
        turned = [(raised, half | 0x8000) for raised, half in [expected[way] for way in (0, 2, 1, 3)]]
        self.assert_ways(bits | FLOAT_SIGN, turned)

    def test_exact(self):
        for bits, half in (
            (0, 0), (FLOAT_ONE, ONE), (0x40400000, 0x4200), (0x3F802000, 0x3C01), (0x477FE000, 0x7BFF),
            (0x38800000, 0x0400), (0x387FC000, 0x03FF), (0x38000000, 0x0200), (0x33800000, 0x0001),
            (0x34400000, 0x0003), (FLOAT_INF, INF),
        ):
            self.assert_both_signs(bits, [(0, half)] * 4)

    def test_ties_and_their_neighbours(self):
        # 1 + 2^-11 and 1 + 3 2^-11 lie half way.
        self.assert_both_signs(0x3F801000, [(16, 0x3C00), (16, 0x3C00), (16, 0x3C01), (16, 0x3C00)])
        self.assert_both_signs(0x3F803000, [(16, 0x3C02), (16, 0x3C01), (16, 0x3C02), (16, 0x3C01)])
        self.assert_both_signs(0x3F800FFF, [(16, 0x3C00), (16, 0x3C00), (16, 0x3C01), (16, 0x3C00)])
        self.assert_both_signs(0x3F801001, [(16, 0x3C01), (16, 0x3C00), (16, 0x3C01), (16, 0x3C00)])
        self.assert_both_signs(0x3F7FFFFF, [(16, 0x3C00), (16, 0x3BFF), (16, 0x3C00), (16, 0x3BFF)])

    def test_overflow(self):
        # 65504 and a little, 65520 and a little less, 65520, 65536, the greatest float.
        for bits in (0x477FE001, 0x477FEFFF):
            self.assert_both_signs(bits, [(16, 0x7BFF), (16, 0x7BFF), (20, INF), (16, 0x7BFF)])
        for bits in (0x477FF000, 0x477FFFFF):
            self.assert_both_signs(bits, [(20, INF), (16, 0x7BFF), (20, INF), (16, 0x7BFF)])
        for bits in (0x47800000, 0x47800001, 0x4B800000, 0x60000000, 0x7F7FFFFF):
            self.assert_both_signs(bits, [(20, INF), (20, 0x7BFF), (20, INF), (20, 0x7BFF)])

    def test_underflow(self):
        tiny = [(24, 0), (24, 0), (24, 1), (24, 0)]
        # Denormal floats, the least normal one, and what is up to half of the least half.
        for bits in (0x00000001, 0x00400000, 0x007FFFFF, 0x00800000, 0x20000000, 0x32FFFFFF, 0x33000000):
            self.assert_both_signs(bits, tiny)
        self.assert_both_signs(0x33000001, [(24, 1), (24, 0), (24, 1), (24, 0)])
        self.assert_both_signs(0x33C00000, [(24, 2), (24, 1), (24, 2), (24, 1)])
        self.assert_both_signs(0x34200000, [(24, 2), (24, 2), (24, 3), (24, 2)])
        self.assert_both_signs(0x387FC001, [(24, 0x03FF), (24, 0x03FF), (24, 0x0400), (24, 0x03FF)])

    def test_just_below_the_least_normal(self):
        # 2^-14 - 2^-25 has eleven bits and stays below 2^-14.
        self.assert_both_signs(0x387FE000, [(24, 0x0400), (24, 0x03FF), (24, 0x0400), (24, 0x03FF)])
        # A little more goes up to 2^-14 with eleven bits, where up is the direction.
        self.assert_both_signs(0x387FE001, [(24, 0x0400), (24, 0x03FF), (16, 0x0400), (24, 0x03FF)])
        self.assert_both_signs(0x387FEFFF, [(24, 0x0400), (24, 0x03FF), (16, 0x0400), (24, 0x03FF)])
        # From half way on it does so to the nearest, too.
        self.assert_both_signs(0x387FF000, [(16, 0x0400), (24, 0x03FF), (16, 0x0400), (24, 0x03FF)])
        self.assert_both_signs(0x387FFFFF, [(16, 0x0400), (24, 0x03FF), (16, 0x0400), (24, 0x03FF)])

    def test_inexact_without_underflow(self):
        self.assert_both_signs(0x38800001, [(16, 0x0400), (16, 0x0400), (16, 0x0401), (16, 0x0400)])
        self.assert_both_signs(0x38801001, [(16, 0x0401), (16, 0x0400), (16, 0x0401), (16, 0x0400)])

    def test_infinities_raise_nothing(self):
        self.assert_ways(FLOAT_INF, (0, INF))
        self.assert_ways(FLOAT_INF | FLOAT_SIGN, (0, MINUS_INF))

    def test_no_numbers(self):
        for quiet in (0x7FC00000, 0x7FC00001, 0x7FFFFFFF, 0x7FE00000):
            self.assert_ways(quiet, (0, NAN))
            self.assert_ways(quiet | FLOAT_SIGN, (0, NAN))
        for signalling in (0x7F800001, 0x7FBFFFFF, 0x7FA00000, 0x7F802000):
            self.assert_ways(signalling, NO)
            self.assert_ways(signalling | FLOAT_SIGN, NO)

    def test_lanes_raise_together(self):
        x = floats({0: 0x7F800001, 5: 0x47800000, 14: 0x00000001, 15: 0x3F801000})
        for way in WAYS:
            self.assertEqual(of_float(way, x)[0], 29)
            self.assertEqual(of_float(way, [FLOAT_ONE] + x[1:])[0], 28)
            self.assertEqual(of_float(way, x[10:] + floats()[6:])[0], 24)
            self.assertEqual(of_float(way, x[15:] + floats()[1:])[0], 16)

    def test_refused(self):
        for way in (4, 5, 256, 4294967295):
            self.assertEqual(of_float(way, floats()), [REFUSED] + [0] * 16)
        self.assertEqual(of_float(3, floats()), [0] + [ONE] * 16)


class OfFloatAgainstExact(unittest.TestCase):
    def assert_floats(self, some):
        some = some + [FLOAT_ONE] * (-len(some) % 16)
        for first in range(0, len(some), 16):
            x = some[first:first + 16]
            for way in WAYS:
                answers = [exact.narrowed("f", way, bits) for bits in x]
                self.assertEqual(of_float(way, x), exact.together(answers), (way, [hex(bits) for bits in x]))

    def assert_each_alone(self, some):
        for at, bits in enumerate(some):
            for way in WAYS:
                answer = of_float(way, floats({at % 16: bits}))
                self.assertEqual((answer[0], answer[1 + at % 16]), exact.narrowed("f", way, bits), (way, hex(bits)))

    def test_half_way_between_halves(self):
        found = []
        for half in (*range(0, 0x7C00, 37), *range(0x03F0, 0x0410), *range(0x7BF0, 0x7BFF), *range(16)):
            middle = float_bits(float((exact.number(half) + exact.number(half + 1)) / 2 if half < 0x7BFF else 65520))
            for bits in (middle - 1, middle, middle + 1):
                found += [bits, bits | FLOAT_SIGN]
        self.assert_floats(found)

    def test_edges_and_their_neighbours(self):
        found = []
        for half in SIGNED_EDGES:
            bits = exact.widened("f", half)[1]
            found += [max(bits - 1, 0), bits, bits + 1]
        for exponent in range(256):
            found += [exponent << 23, exponent << 23 | 1, exponent << 23 | 0x7FFFFF, exponent << 23 | FLOAT_SIGN | 0x400]
        self.assert_each_alone(found)

    def test_floats_from_all_over(self):
        high, low = some_halves(1600, 21), some_halves(1600, 22)
        self.assert_floats([top << 16 | rest for top, rest in zip(high, low)])
        # Those with an exponent that a half has, or nearly.
        self.assert_floats([(0x3200 + top % 0x1700 << 16 | rest) ^ (rest & 1) << 31 for top, rest in zip(high, low)])
