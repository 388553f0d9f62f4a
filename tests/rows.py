"""Rows of 32 halves for the tests, and the names of some halves."""

import unittest

from halfrowsdesk.lanes import do

ONE = 0x3C00
INF, MINUS_INF = 0x7C00, 0xFC00
NAN = 0x7E00
QUIETS = (0x7E00, 0x7E01, 0x7FFF, 0xFE00, 0xFFFF)
SIGNALLINGS = (0x7C01, 0x7DFF, 0xFC01, 0xFDFF)
WAYS = range(4)
REFUSED = 2147483648

EDGES = (
    0x0000, 0x0001, 0x0002, 0x03FF, 0x0400, 0x0401, 0x1000, 0x3800, 0x3BFF, 0x3C00, 0x3C01, 0x3E00,
    0x4000, 0x4100, 0x4C00, 0x6401, 0x7BFE, 0x7BFF, 0x7C00, 0x7C01, 0x7E00, 0x7FFF,
)
SIGNED_EDGES = EDGES + tuple(half | 0x8000 for half in EDGES)


def row(at=None, fill=ONE, lanes=32):
    """As many lanes of fill, but for those that the dict tells."""
    halves = [fill] * lanes
    for lane, half in (at or {}).items():
        halves[lane] = half
    return halves


def one(op, way, a, b=ONE, c=ONE, lane=0):
    """What's raised and the lane's half, where all other lanes are 1, which raises nothing in any op."""
    answer = do(op, way, row({lane: a}), row({lane: b}), row({lane: c}))
    return (answer[0], answer[1 + lane])


def some_halves(count, seed):
    """Halves from all over, the same each time."""
    halves = []
    state = seed
    for _ in range(count):
        state = (state * 1103515245 + 12345) % 2 ** 31
        halves.append(state >> 8 & 0xFFFF)
    return halves


class LaneTests(unittest.TestCase):
    def assert_ways(self, op, arguments, expected):
        """One expected (raised, half) for each direction, or one for all four."""
        if isinstance(expected, tuple):
            expected = [expected] * 4
        for way in WAYS:
            for lane in (0, 1, 17, 31):
                with self.subTest(op=op, way=way, arguments=[hex(x) for x in arguments], lane=lane):
                    self.assertEqual(one(op, way, *arguments, lane=lane), expected[way])

    def assert_table(self, op, table):
        for arguments, expected in table:
            self.assert_ways(op, arguments, expected)
