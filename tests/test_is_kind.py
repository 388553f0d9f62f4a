"""Point 8: of which kinds the lanes' halves are."""

import unittest

from halfrowsdesk.lanes import is_kind
from tests.rows import QUIETS, SIGNALLINGS, row

ALL = 4294967295

HALVES = {
    1: QUIETS,
    2: (0,),
    4: (0x8000,),
    8: (0x7C00,),
    16: (0xFC00,),
    32: (0x0001, 0x0200, 0x03FF),
    32 | 64: (0x8001, 0x8200, 0x83FF),
    64: (0x8400, 0xBC00, 0xFBFF),
    128: SIGNALLINGS,
    0: (0x0400, 0x3C00, 0x7BFF),
}


class Kinds(unittest.TestCase):
    def test_each_kind_and_their_unions(self):
        for which in range(256):
            for kinds, halves in HALVES.items():
                for half in halves:
                    with self.subTest(which=which, half=hex(half)):
                        self.assertEqual(is_kind(which, [half] * 32), [0, ALL if which & kinds else 0])

    def test_higher_bits_do_not_matter(self):
        a = [half for halves in HALVES.values() for half in halves]
        a = (a * 2)[:32]
        for which in range(256):
            expected = is_kind(which, a)
            for higher in (256, 512, 65536, 1 << 31, ALL - 255):
                self.assertEqual(is_kind(which | higher, a), expected)

    def test_each_lane_has_its_bit(self):
        for lane in range(32):
            for kinds, halves in HALVES.items():
                for half in halves:
                    self.assertEqual(is_kind(255, row({lane: half})), [0, 1 << lane if kinds else 0])

    def test_every_half(self):
        counts = {1: 1024, 2: 1, 4: 1, 8: 1, 16: 1, 32: 2046, 64: 31743, 128: 1022}
        for which, count in counts.items():
            found = 0
            for first in range(0, 65536, 32):
                found += bin(is_kind(which, list(range(first, first + 32)))[1]).count("1")
            self.assertEqual(found, count)
