"""Point 9: lanes of b where the mask says so, else of a."""

import unittest

from halfrowsdesk.lanes import where
from tests.rows import QUIETS, SIGNALLINGS, SIGNED_EDGES, row, some_halves

ALL = 4294967295
A = list(range(0x0100, 0x0120))
B = list(range(0x8200, 0x8220))


class Where(unittest.TestCase):
    def test_none_and_all(self):
        self.assertEqual(where(0, A, B), [0] + A)
        self.assertEqual(where(ALL, A, B), [0] + B)

    def test_each_bit_by_itself(self):
        for lane in range(32):
            self.assertEqual(where(1 << lane, A, B), [0] + A[:lane] + [B[lane]] + A[lane + 1:])
            self.assertEqual(where(ALL - (1 << lane), A, B), [0] + B[:lane] + [A[lane]] + B[lane + 1:])

    def test_several_bits(self):
        self.assertEqual(where(0x55555555, A, B), [0] + [(B, A)[lane % 2][lane] for lane in range(32)])
        self.assertEqual(where(0x0000FFFF, A, B), [0] + B[:16] + A[16:])
        self.assertEqual(where(0x80000001, A, B), [0] + B[:1] + A[1:31] + B[31:])

    def test_no_numbers_are_told_bit_by_bit(self):
        for none in QUIETS + SIGNALLINGS:
            for lane in range(32):
                self.assertEqual(where(0, row({lane: none}), row()), [0] + row({lane: none}))
                self.assertEqual(where(1 << lane, row(), row({lane: none})), [0] + row({lane: none}))
                # What is not taken does not matter.
                self.assertEqual(where(1 << lane, row({lane: none}), row()), [0] + row())

    def test_every_half_stays_as_it_is(self):
        for first in range(0, 65536, 32):
            halves = list(range(first, first + 32))
            self.assertEqual(where(0, halves, row()), [0] + halves)
            self.assertEqual(where(ALL, row(), halves), [0] + halves)

    def test_masks_from_all_over(self):
        a, b = list(SIGNED_EDGES[:32]), list(SIGNED_EDGES[-32:])
        parts = some_halves(200, 5)
        for low, high in zip(parts, parts[1:]):
            mask = high << 16 | low
            chosen = [b[lane] if char == "1" else a[lane] for lane, char in enumerate(f"{mask:032b}"[::-1])]
            self.assertEqual(where(mask, a, b), [0] + chosen)
