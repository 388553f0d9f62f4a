"""Point 11, its first part: halves as whole numbers of sixteen bits."""

import unittest

from halfrowsdesk.lanes import whole
from tests import exact
from tests.rows import INF, MINUS_INF, ONE, QUIETS, REFUSED, SIGNALLINGS, SIGNED_EDGES, WAYS, row

SIGNED, UNSIGNED = 0, 1
NO_SIGNED, NO_UNSIGNED = (1, 0x8000), (1, 0xFFFF)


def below_zero(number):
    return number + 65536


class Whole(unittest.TestCase):
    def assert_ways(self, kind, half, expected):
        """One expected (raised, number) for each direction, or one for all four."""
        if isinstance(expected, tuple):
            expected = [expected] * 4
        for way in WAYS:
            for lane in (0, 1, 18, 31):
                with self.subTest(kind=kind, way=way, half=hex(half), lane=lane):
                    answer = whole(kind, way, row({lane: half}))
                    self.assertEqual((answer[0], answer[1 + lane]), expected[way])
                    self.assertEqual(answer[1:1 + lane] + answer[2 + lane:], [1] * 31)

    def test_exact(self):
        for kind in (SIGNED, UNSIGNED):
            for half, number in ((0, 0), (0x8000, 0), (ONE, 1), (0x4000, 2), (0x6401, 1025), (0x6800, 2048),
                                 (0x77FE, 32736), (0x77FF, 32752)):
                self.assert_ways(kind, half, (0, number))

    def test_rounded(self):
        for kind in (SIGNED, UNSIGNED):
            self.assert_ways(kind, 0x3E00, [(16, 2), (16, 1), (16, 2), (16, 1)])
            self.assert_ways(kind, 0x4100, [(16, 2), (16, 2), (16, 3), (16, 2)])
            self.assert_ways(kind, 0x4101, [(16, 3), (16, 2), (16, 3), (16, 2)])
            self.assert_ways(kind, 0x3800, [(16, 0), (16, 0), (16, 1), (16, 0)])
            self.assert_ways(kind, 0x3801, [(16, 1), (16, 0), (16, 1), (16, 0)])
            self.assert_ways(kind, 0x3BFF, [(16, 1), (16, 0), (16, 1), (16, 0)])
            self.assert_ways(kind, 0x0001, [(16, 0), (16, 0), (16, 1), (16, 0)])
            self.assert_ways(kind, 0x63FF, [(16, 1024), (16, 1023), (16, 1024), (16, 1023)])

    def test_signed_ones_below_zero(self):
        minus_one, minus_two, minus_three = 65535, 65534, 65533
        self.assert_ways(SIGNED, 0xBC00, (0, minus_one))
        self.assert_ways(SIGNED, 0xC000, (0, minus_two))
        self.assert_ways(SIGNED, 0xBE00, [(16, minus_two), (16, minus_two), (16, minus_one), (16, minus_one)])
        self.assert_ways(SIGNED, 0xC100, [(16, minus_two), (16, minus_three), (16, minus_two), (16, minus_two)])
        self.assert_ways(SIGNED, 0xB801, [(16, minus_one), (16, minus_one), (16, 0), (16, 0)])
        self.assert_ways(SIGNED, 0xB800, [(16, 0), (16, minus_one), (16, 0), (16, 0)])
        self.assert_ways(SIGNED, 0x8001, [(16, 0), (16, minus_one), (16, 0), (16, 0)])

    def test_edges_of_the_signed_ones(self):
        self.assert_ways(SIGNED, 0x7800, NO_SIGNED)
        self.assert_ways(SIGNED, 0x7801, NO_SIGNED)
        self.assert_ways(SIGNED, 0x7BFF, NO_SIGNED)
        self.assert_ways(SIGNED, 0xF7FF, (0, below_zero(-32752)))
        self.assert_ways(SIGNED, 0xF800, (0, below_zero(-32768)))
        self.assert_ways(SIGNED, 0xF801, NO_SIGNED)
        self.assert_ways(SIGNED, 0xFBFF, NO_SIGNED)

    def test_edges_of_the_unsigned_ones(self):
        self.assert_ways(UNSIGNED, 0x7800, (0, 32768))
        self.assert_ways(UNSIGNED, 0x7801, (0, 32800))
        self.assert_ways(UNSIGNED, 0x7BFE, (0, 65472))
        self.assert_ways(UNSIGNED, 0x7BFF, (0, 65504))

    def test_unsigned_ones_below_zero(self):
        self.assert_ways(UNSIGNED, 0x8001, [(16, 0), NO_UNSIGNED, (16, 0), (16, 0)])
        self.assert_ways(UNSIGNED, 0xB800, [(16, 0), NO_UNSIGNED, (16, 0), (16, 0)])
        # What is out of range is not inexact too.
        self.assert_ways(UNSIGNED, 0xB801, [NO_UNSIGNED, NO_UNSIGNED, (16, 0), (16, 0)])
        self.assert_ways(UNSIGNED, 0xBBFF, [NO_UNSIGNED, NO_UNSIGNED, (16, 0), (16, 0)])
        for half in (0xBC00, 0xBC01, 0xBE00, 0xC000, 0xF800, 0xFBFF):
            self.assert_ways(UNSIGNED, half, NO_UNSIGNED)

    def test_no_numbers_and_infinities(self):
        for half in QUIETS + SIGNALLINGS + (INF, MINUS_INF):
            self.assert_ways(SIGNED, half, NO_SIGNED)
            self.assert_ways(UNSIGNED, half, NO_UNSIGNED)

    def test_lanes_raise_together(self):
        for way in WAYS:
            for lane in range(31):
                for kind, none in ((SIGNED, 0x8000), (UNSIGNED, 0xFFFF)):
                    inexact = whole(kind, way, row({lane: 0x4080}))
                    invalid = whole(kind, way, row({lane + 1: INF}))
                    both = whole(kind, way, row({lane: 0x4080, lane + 1: INF}))
                    self.assertEqual((inexact[0], invalid[0], both[0]), (16, 1, 17))
                    self.assertEqual(both[1 + lane], 3 if way == 2 else 2)
                    self.assertEqual(both[2 + lane], none)

    def test_each_edge_alone_against_the_exact_numbers(self):
        for kind in (SIGNED, UNSIGNED):
            for way in WAYS:
                for half in SIGNED_EDGES:
                    answer = whole(kind, way, row({7: half}))
                    self.assertEqual((answer[0], answer[8]), exact.as_whole(kind, way, half), (kind, way, hex(half)))

    def test_every_half_against_the_exact_numbers(self):
        for kind in (SIGNED, UNSIGNED):
            for way in WAYS:
                for first in range(0, 65536, 32):
                    halves = list(range(first, first + 32))
                    answers = [exact.as_whole(kind, way, half) for half in halves]
                    self.assertEqual(whole(kind, way, halves), exact.together(answers), (kind, way, first))

    def test_refused(self):
        for bad in (2, 3, 256, 4294967295):
            for way in WAYS:
                self.assertEqual(whole(bad, way, row()), [REFUSED] + [0] * 32)
        for bad in (4, 5, 256, 4294967295):
            for kind in (0, 1, 2, 4294967295):
                self.assertEqual(whole(kind, bad, row()), [REFUSED] + [0] * 32)
