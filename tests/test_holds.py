"""Point 7: which lanes' halves are in the relations that how names."""

import unittest

from halfrowsdesk.lanes import holds
from tests.exact import less_than, nan, signalling
from tests.rows import INF, MINUS_INF, NAN, ONE, QUIETS, SIGNALLINGS, SIGNED_EDGES, row

LESS, EQUAL, GREATER, NONE = 1, 2, 4, 8
ALL = 4294967295

PAIRS = {
    LESS: ((ONE, 0x4000), (0xC000, 0xBC00), (0xBC00, ONE), (0, 1), (0x8001, 0x8000), (0x8001, 0), (0x8000, 1),
           (0x03FF, 0x0400), (0x7BFF, INF), (MINUS_INF, 0xFBFF), (MINUS_INF, INF)),
    EQUAL: ((ONE, ONE), (0xBC00, 0xBC00), (0, 0), (0x8000, 0), (0, 0x8000), (0x8000, 0x8000), (1, 1), (INF, INF),
            (MINUS_INF, MINUS_INF)),
    NONE: tuple((none, other) for none in QUIETS + SIGNALLINGS for other in (ONE, 0, INF, none, NAN)),
}
PAIRS[GREATER] = tuple((b, a) for a, b in PAIRS[LESS])
PAIRS[NONE] += tuple((b, a) for a, b in PAIRS[NONE])


def invalid(how, a, b):
    test = nan if how & 16 else signalling
    return 1 if test(a) or test(b) else 0


def relation(a, b):
    if nan(a) or nan(b):
        return NONE
    if less_than(a, b):
        return LESS
    return GREATER if less_than(b, a) else EQUAL


class Holds(unittest.TestCase):
    def test_each_relation_and_their_unions(self):
        for how in range(32):
            for relation_bit, pairs in PAIRS.items():
                for a, b in pairs:
                    with self.subTest(how=how, a=hex(a), b=hex(b)):
                        expected = ALL if how & relation_bit else 0
                        self.assertEqual(holds(how, [a] * 32, [b] * 32), [invalid(how, a, b), expected])

    def test_each_lane_has_its_bit(self):
        for lane in range(32):
            self.assertEqual(holds(1, row(), row({lane: 0x4000})), [0, 1 << lane])
            self.assertEqual(holds(2, row(), row({lane: 0x4000})), [0, ALL - (1 << lane)])
            self.assertEqual(holds(4, row({lane: 0x4000}), row()), [0, 1 << lane])
            self.assertEqual(holds(8, row({lane: NAN}), row()), [0, 1 << lane])

    def test_invalid_from_any_lane(self):
        for lane in range(32):
            for how in range(32):
                quiet = 1 if how & 16 else 0
                self.assertEqual(holds(how, row({lane: NAN}), row())[0], quiet)
                self.assertEqual(holds(how, row(), row({lane: 0xFFFF}))[0], quiet)
                self.assertEqual(holds(how, row({lane: 0x7C01}), row())[0], 1)
                self.assertEqual(holds(how, row(), row({lane: 0xFDFF}))[0], 1)

    def test_numbers_raise_nothing(self):
        halves = [INF, MINUS_INF, 0, 0x8000, 1, 0x8001, 0x7BFF, 0xFBFF] * 4
        for how in range(32):
            self.assertEqual(holds(how, halves, halves[::-1])[0], 0)

    def test_rows_of_all_sorts(self):
        for shift in range(len(SIGNED_EDGES)):
            a = list(SIGNED_EDGES[:32])
            b = list((SIGNED_EDGES[shift:] + SIGNED_EDGES[:shift])[:32])
            for how in range(32):
                found = sum(1 << lane for lane in range(32) if how & relation(a[lane], b[lane]))
                raised = max(invalid(how, a[lane], b[lane]) for lane in range(32))
                self.assertEqual(holds(how, a, b), [raised, found])
