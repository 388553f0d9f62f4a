"""do in all ops and directions against the exact numbers, over edges and halves from all over."""

import unittest

from halfrowsdesk.lanes import do
from tests import exact
from tests.rows import ONE, SIGNED_EDGES, WAYS, one, some_halves

ONE_ARGUMENT = (4, 13, 14, 16, 17)
TWO_ARGUMENTS = (0, 1, 2, 3, 11, 12, 15)
FUSED = (5, 6, 7, 8, 9, 10)
FEW = (0, 0x8000, 1, 0x03FF, 0x8400, 0x3BFF, 0x3C00, 0xBC01, 0x4C00, 0x7BFF, 0xFBFF, 0x7C00, 0xFC00, 0x7E00, 0x7C01)


class AgainstExact(unittest.TestCase):
    def assert_one(self, op, way, a, b, c, lane):
        self.assertEqual(one(op, way, a, b, c, lane), exact.step(op, way, lane, a, b, c),
                         (op, way, hex(a), hex(b), hex(c)))

    def assert_rows(self, op, way, a, b, c):
        self.assertEqual(do(op, way, a, b, c), exact.do(op, way, a, b, c), (op, way, a, b, c))

    def test_every_half(self):
        ones = [ONE] * 32
        for op in ONE_ARGUMENT:
            for first in range(0, 65536, 32):
                # The direction does nothing in ops 13 and 14: one each is enough here.
                for way in WAYS if op not in (13, 14) else (first // 32 % 4,):
                    self.assert_rows(op, way, list(range(first, first + 32)), ones, ones)

    def test_each_edge_alone(self):
        for op in ONE_ARGUMENT:
            for way in WAYS:
                for a in SIGNED_EDGES + tuple(some_halves(300, 11)):
                    self.assert_one(op, way, a, ONE, ONE, 2)

    def test_pairs_of_edges(self):
        for op in TWO_ARGUMENTS:
            for way in WAYS:
                for a in SIGNED_EDGES:
                    for b in SIGNED_EDGES:
                        self.assert_one(op, way, a, b, ONE, 3)

    def test_triples_of_edges(self):
        for op in FUSED:
            for way in WAYS:
                for a in FEW:
                    for b in FEW:
                        for c in FEW:
                            self.assert_one(op, way, a, b, c, 4 + (a + b + c) % 2)

    def test_halves_from_all_over(self):
        for turn in range(60):
            rows = [some_halves(32, 3 * turn + place) for place in range(3)]
            for op in range(18):
                for way in WAYS:
                    self.assert_rows(op, way, *rows)

    def test_sums_that_cancel(self):
        for turn in range(60):
            a = some_halves(32, 1000 + turn)
            b = some_halves(32, 2000 + turn)
            products = do(2, turn % 4, a, b, a)[1:]
            for op in FUSED:
                for way in WAYS:
                    self.assert_rows(op, way, a, b, products)
