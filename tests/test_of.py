"""Point 11, its second part: whole numbers of sixteen bits as halves."""

import unittest

from halfrowsdesk.lanes import of, whole
from tests import exact
from tests.rows import INF, ONE, REFUSED, WAYS, row

SIGNED, UNSIGNED = 0, 1


class Of(unittest.TestCase):
    def assert_ways(self, kind, z, expected):
        """One expected (raised, half) for each direction, or one for all four."""
        if isinstance(expected, tuple):
            expected = [expected] * 4
        for way in WAYS:
            for lane in (0, 1, 18, 31):
                with self.subTest(kind=kind, way=way, z=z, lane=lane):
                    answer = of(kind, way, row({lane: z}, fill=1))
                    self.assertEqual((answer[0], answer[1 + lane]), expected[way])
                    self.assertEqual(answer[1:1 + lane] + answer[2 + lane:], [ONE] * 31)

    def test_exact(self):
        for kind in (SIGNED, UNSIGNED):
            for z, half in ((0, 0), (1, ONE), (2, 0x4000), (3, 0x4200), (1025, 0x6401), (2047, 0x67FF),
                            (2048, 0x6800), (2050, 0x6801), (32752, 0x77FF)):
                self.assert_ways(kind, z, (0, half))

    def test_rounded(self):
        for kind in (SIGNED, UNSIGNED):
            self.assert_ways(kind, 2049, [(16, 0x6800), (16, 0x6800), (16, 0x6801), (16, 0x6800)])
            self.assert_ways(kind, 2051, [(16, 0x6802), (16, 0x6801), (16, 0x6802), (16, 0x6801)])
            self.assert_ways(kind, 4097, [(16, 0x6C00), (16, 0x6C00), (16, 0x6C01), (16, 0x6C00)])
            self.assert_ways(kind, 4099, [(16, 0x6C01), (16, 0x6C00), (16, 0x6C01), (16, 0x6C00)])
            self.assert_ways(kind, 32767, [(16, 0x7800), (16, 0x77FF), (16, 0x7800), (16, 0x77FF)])

    def test_edges_of_the_signed_ones(self):
        self.assert_ways(SIGNED, 32768, (0, 0xF800))
        self.assert_ways(SIGNED, 32769, [(16, 0xF800), (16, 0xF800), (16, 0xF7FF), (16, 0xF7FF)])
        self.assert_ways(SIGNED, 32784, (0, 0xF7FF))

    def test_signed_ones_below_zero(self):
        for number, half in ((-1, 0xBC00), (-2, 0xC000), (-3, 0xC200), (-32, 0xD000), (-2047, 0xE7FF),
                             (-2048, 0xE800), (-2050, 0xE801)):
            self.assert_ways(SIGNED, 65536 + number, (0, half))
        self.assert_ways(SIGNED, 65536 - 2049, [(16, 0xE800), (16, 0xE801), (16, 0xE800), (16, 0xE800)])
        self.assert_ways(SIGNED, 65536 - 2051, [(16, 0xE802), (16, 0xE802), (16, 0xE801), (16, 0xE801)])

    def test_unsigned_ones_above_the_signed(self):
        self.assert_ways(UNSIGNED, 32768, (0, 0x7800))
        self.assert_ways(UNSIGNED, 32769, [(16, 0x7800), (16, 0x7800), (16, 0x7801), (16, 0x7800)])
        self.assert_ways(UNSIGNED, 65472, (0, 0x7BFE))
        self.assert_ways(UNSIGNED, 65503, [(16, 0x7BFF), (16, 0x7BFE), (16, 0x7BFF), (16, 0x7BFE)])
        self.assert_ways(UNSIGNED, 65504, (0, 0x7BFF))

    def test_overflow(self):
        for z in (65505, 65512, 65519):
            self.assert_ways(UNSIGNED, z, [(16, 0x7BFF), (16, 0x7BFF), (20, INF), (16, 0x7BFF)])
        for z in (65520, 65521, 65535):
            self.assert_ways(UNSIGNED, z, [(20, INF), (16, 0x7BFF), (20, INF), (16, 0x7BFF)])

    def test_lanes_raise_together(self):
        for lane in range(31):
            answers = [of(UNSIGNED, way, row({lane: 2049, lane + 1: 65535}, fill=7)) for way in WAYS]
            self.assertEqual([answer[0] for answer in answers], [20, 16, 20, 16])
            self.assertEqual([answer[1 + lane] for answer in answers], [0x6800, 0x6800, 0x6801, 0x6800])
            self.assertEqual([answer[2 + lane] for answer in answers], [INF, 0x7BFF, INF, 0x7BFF])
            self.assertEqual(of(SIGNED, 0, row({lane: 65535}, fill=0)), [0] + row({lane: 0xBC00}, fill=0))

    def test_every_number_against_the_exact_numbers(self):
        for kind in (SIGNED, UNSIGNED):
            for way in WAYS:
                for first in range(0, 65536, 32):
                    z = list(range(first, first + 32))
                    answers = [exact.of_whole(kind, way, number) for number in z]
                    self.assertEqual(of(kind, way, z), exact.together(answers), (kind, way, first))

    def test_there_and_back(self):
        # Halves from 1024 on are whole.
        for first in range(0x6400, 0x7800, 32):
            halves = list(range(first, first + 32))
            for way in WAYS:
                self.assertEqual(of(UNSIGNED, way, whole(UNSIGNED, way, halves)[1:]), [0] + halves)
                halves_below = [half | 0x8000 for half in halves]
                self.assertEqual(of(SIGNED, way, whole(SIGNED, way, halves_below)[1:]), [0] + halves_below)

    def test_refused(self):
        for bad in (2, 3, 256, 4294967295):
            for way in WAYS:
                self.assertEqual(of(bad, way, row(fill=1)), [REFUSED] + [0] * 32)
        for bad in (4, 5, 256, 4294967295):
            for kind in (0, 1, 2, 4294967295):
                self.assertEqual(of(kind, bad, row(fill=1)), [REFUSED] + [0] * 32)
