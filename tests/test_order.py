"""Point 14: a list put in order; raised 0."""

import unittest
from itertools import permutations

from halfrowsdesk.lanes import order
from tests import exact
from tests.rows import INF, MINUS_INF, NAN, ONE, QUIETS, REFUSED, SIGNALLINGS, SIGNED_EDGES, some_halves

ZERO, MINUS_ZERO = 0, 0x8000
LINED_UP = [
    MINUS_INF, 0xFBFF, 0xC000, 0xBC01, 0xBC00, 0xBBFF, 0x8401, 0x8400, 0x83FF, 0x8002, 0x8001, MINUS_ZERO,
    ZERO, 0x0001, 0x0002, 0x03FF, 0x0400, 0x0401, 0x3BFF, 0x3C00, 0x3C01, 0x4000, 0x7BFF, INF, NAN,
]


class Order(unittest.TestCase):
    def test_of_nothing(self):
        self.assertEqual(order([]), [0])

    def test_of_one(self):
        for half in LINED_UP:
            self.assertEqual(order([half]), [0, half])

    def test_in_order(self):
        self.assertEqual(order(list(LINED_UP)), [0] + LINED_UP)

    def test_the_other_way_round(self):
        self.assertEqual(order(LINED_UP[::-1]), [0] + LINED_UP)

    def test_mixed(self):
        for step in (2, 3, 7, 11, 13):
            # There are 25, and 5 divides none of these steps: so each half comes once.
            mixed = [LINED_UP[at * step % 25] for at in range(25)]
            self.assertEqual(order(mixed), [0] + LINED_UP)

    def test_every_order_of_a_few(self):
        few = [MINUS_INF, 0x8001, MINUS_ZERO, ZERO, INF, NAN]
        for mixed in permutations(few):
            self.assertEqual(order(list(mixed)), [0] + few)

    def test_neighbours(self):
        for first, second in zip(LINED_UP, LINED_UP[1:]):
            self.assertEqual(order([first, second]), [0, first, second])
            self.assertEqual(order([second, first]), [0, first, second])

    def test_zeros(self):
        self.assertEqual(order([ZERO, MINUS_ZERO]), [0, MINUS_ZERO, ZERO])
        self.assertEqual(order([ZERO, MINUS_ZERO] * 50), [0] + [MINUS_ZERO] * 50 + [ZERO] * 50)
        self.assertEqual(order([ZERO] * 3 + [0x0001, 0x8001] + [MINUS_ZERO] * 2),
                         [0, 0x8001, MINUS_ZERO, MINUS_ZERO, ZERO, ZERO, ZERO, 0x0001])

    def test_infinities(self):
        self.assertEqual(order([INF, MINUS_INF, 0x7BFF, INF, 0xFBFF, MINUS_INF]),
                         [0, MINUS_INF, MINUS_INF, 0xFBFF, 0x7BFF, INF, INF])

    def test_no_numbers(self):
        for half in QUIETS + SIGNALLINGS:
            self.assertEqual(order([half]), [0, NAN])
            self.assertEqual(order([half, INF, half, MINUS_INF, half]), [0, MINUS_INF, INF, NAN, NAN, NAN])
        every = list(QUIETS + SIGNALLINGS)
        self.assertEqual(order(every + [ONE] + every), [0, ONE] + [NAN] * (2 * len(every)))

    def test_equal_numbers(self):
        self.assertEqual(order([ONE] * 5), [0] + [ONE] * 5)
        self.assertEqual(order([ONE, 0xBC00, ONE, 0x4000, 0xBC00]), [0, 0xBC00, 0xBC00, ONE, ONE, 0x4000])


class LongLists(unittest.TestCase):
    def test_61000(self):
        # From 0 up to 0xEE47: all numbers from 0 on, all no numbers without a sign, some below 0.
        expected = [0, *range(0xEE47, 0x7FFF, -1), *range(0x7C01), *[NAN] * 0x3FF]
        self.assertEqual(order(list(range(61000))), expected)
        self.assertEqual(order(list(range(60999, -1, -1))), expected)

    def test_61000_alike_but_one(self):
        self.assertEqual(order([ONE] * 60999 + [ZERO]), [0, ZERO] + [ONE] * 60999)
        self.assertEqual(order([0x7C01] + [ONE] * 60999), [0] + [ONE] * 60999 + [NAN])

    def test_61000_against_the_halves_lined_up(self):
        x = some_halves(61000, 51)
        self.assertEqual(order(x), exact.order(x))

    def test_every_half(self):
        expected = [0, *range(0xFC00, 0x7FFF, -1), *range(0x7C01), *[NAN] * 0x7FE]
        self.assertEqual(order(list(range(65536))), expected)

    def test_too_long(self):
        for length in (65537, 65538, 70000):
            self.assertEqual(order([ONE] * length), [REFUSED])
            self.assertEqual(order([NAN] * length), [REFUSED])


class AgainstTheHalvesLinedUp(unittest.TestCase):
    def test_edges(self):
        x = list(SIGNED_EDGES) * 3
        self.assertEqual(order(x), exact.order(x))

    def test_halves_from_all_over(self):
        for turn in range(60):
            x = some_halves(turn * 7, 60 + turn)
            self.assertEqual(order(x), exact.order(x))
