"""What the tests of floats and of doubles share: the forms, and the tests that go by the form alone."""

import struct
from collections.abc import Callable
from typing import NamedTuple

from tests import exact
from tests.rows import INF, MINUS_INF, NAN, ONE, QUIETS, REFUSED, SIGNALLINGS, SIGNED_EDGES, WAYS, row, some_halves

NO = (1, NAN)


class Form(NamedTuple):
    letter: str
    lanes: int
    sign: int
    one: int
    widen: Callable
    narrow: Callable

    @property
    def infinity(self):
        return exact.WIDER[self.letter][1]

    @property
    def no_number(self):
        return self.infinity | exact.WIDER[self.letter][2]

    @property
    def lanes_tried(self):
        return (0, 1, self.lanes // 2 + 1, self.lanes - 1)

    def row(self, at=None):
        return row(at, fill=self.one, lanes=self.lanes)

    def bits(self, number):
        return int.from_bytes(struct.pack("<" + self.letter, number), "little")


class Widening:
    """For a TestCase with a form: halves in that form."""

    def assert_wider(self, half, expected):
        for lane in self.form.lanes_tried:
            with self.subTest(half=hex(half), lane=lane):
                answer = self.form.widen(row({lane: half}, lanes=self.form.lanes))
                self.assertEqual((answer[0], answer[1 + lane]), expected)
                self.assertEqual(answer[1:1 + lane] + answer[2 + lane:], [self.form.one] * (self.form.lanes - 1))

    def assert_both_signs(self, table):
        for half, bits in table:
            self.assert_wider(half, (0, bits))
            self.assert_wider(half | 0x8000, (0, bits | self.form.sign))

    def test_no_numbers(self):
        for quiet in QUIETS:
            self.assert_wider(quiet, (0, self.form.no_number))
        for signalling in SIGNALLINGS:
            self.assert_wider(signalling, (1, self.form.no_number))

    def test_every_half_against_the_exact_numbers(self):
        for first in range(0, 65536, self.form.lanes):
            halves = list(range(first, first + self.form.lanes))
            answers = [exact.widened(self.form.letter, half) for half in halves]
            self.assertEqual(self.form.widen(halves), exact.together(answers))

    def test_there_and_back(self):
        for first in range(0, 65536, self.form.lanes):
            halves = list(range(first, first + self.form.lanes))
            if not any(exact.nan(half) for half in halves):
                for way in WAYS:
                    self.assertEqual(self.form.narrow(way, self.form.widen(halves)[1:]), [0] + halves)


class Narrowing:
    """For a TestCase with a form: numbers of that form as halves."""

    def assert_ways(self, bits, expected):
        """One expected (raised, half) for each direction, or one for all four."""
        if isinstance(expected, tuple):
            expected = [expected] * 4
        for way in WAYS:
            for lane in self.form.lanes_tried:
                with self.subTest(way=way, bits=hex(bits), lane=lane):
                    answer = self.form.narrow(way, self.form.row({lane: bits}))
                    self.assertEqual((answer[0], answer[1 + lane]), expected[way])
                    self.assertEqual(answer[1:1 + lane] + answer[2 + lane:], [ONE] * (self.form.lanes - 1))

    def assert_both_signs(self, bits, expected):
        """As assert_ways, and the like below 0: there down and up change places."""
        self.assert_ways(bits, expected)
        turned = [(raised, half | 0x8000) for raised, half in [expected[way] for way in (0, 2, 1, 3)]]
        self.assert_ways(bits | self.form.sign, turned)

    def assert_no_numbers(self, quiets, signallings):
        for bits in quiets:
            self.assert_ways(bits, (0, NAN))
            self.assert_ways(bits | self.form.sign, (0, NAN))
        for bits in signallings:
            self.assert_ways(bits, NO)
            self.assert_ways(bits | self.form.sign, NO)

    def assert_lanes_raise_together(self, signalling, over, tiny, between):
        """Given what is invalid, what overflows, what underflows, and what is inexact alone, in each direction."""
        some = {0: signalling, 2: over, self.form.lanes - 2: tiny, self.form.lanes - 1: between}
        for way in WAYS:
            for left_out, raised in (((), 29), ((0,), 28), ((0, 2), 24)):
                x = self.form.row({lane: bits for lane, bits in some.items() if lane not in left_out})
                self.assertEqual(self.form.narrow(way, x)[0], raised)
            self.assertEqual(self.form.narrow(way, self.form.row({1: between}))[0], 16)

    def test_infinities_raise_nothing(self):
        self.assert_ways(self.form.infinity, (0, INF))
        self.assert_ways(self.form.infinity | self.form.sign, (0, MINUS_INF))

    def test_refused(self):
        for way in (4, 5, 256, 4294967295):
            self.assertEqual(self.form.narrow(way, self.form.row()), [REFUSED] + [0] * self.form.lanes)
        self.assertEqual(self.form.narrow(3, self.form.row()), [0] + [ONE] * self.form.lanes)


class NarrowingAgainstExact:
    """For a TestCase with a form: numbers of that form as halves, held against exact fractions."""

    def assert_rows(self, some):
        some = some + [self.form.one] * (-len(some) % self.form.lanes)
        for first in range(0, len(some), self.form.lanes):
            x = some[first:first + self.form.lanes]
            for way in WAYS:
                answers = [exact.narrowed(self.form.letter, way, bits) for bits in x]
                self.assertEqual(self.form.narrow(way, x), exact.together(answers), (way, [hex(bits) for bits in x]))

    def assert_each_alone(self, some):
        for at, bits in enumerate(some):
            lane = at % self.form.lanes
            for way in WAYS:
                answer = self.form.narrow(way, self.form.row({lane: bits}))
                expected = exact.narrowed(self.form.letter, way, bits)
                self.assertEqual((answer[0], answer[1 + lane]), expected, (way, hex(bits)))

    def test_half_way_between_halves(self):
        found = []
        for half in (*range(0, 0x7C00, 37), *range(0x03F0, 0x0410), *range(0x7BF0, 0x7BFF), *range(16)):
            middle = (exact.number(half) + exact.number(half + 1)) / 2 if half < 0x7BFF else 65520
            for bits in range(self.form.bits(float(middle)) - 1, self.form.bits(float(middle)) + 2):
                found += [bits, bits | self.form.sign]
        self.assert_rows(found)

    def test_edges_and_their_neighbours(self):
        found = []
        for half in SIGNED_EDGES:
            bits = exact.widened(self.form.letter, half)[1]
            found += [max(bits - 1, 0), bits, bits + 1]
        self.assert_each_alone(found)

    def test_every_exponent(self):
        least_normal = self.form.infinity & -self.form.infinity
        found = []
        for first in range(0, self.form.sign, least_normal):
            found += [first, first | 1, first | least_normal - 1, first | self.form.sign | 0x400]
        self.assert_each_alone(found)

    def with_tops(self, tops):
        """Numbers of the form from all over, the first sixteen bits of each as they are handed in."""
        below = 8 * exact.WIDER[self.form.letter][0] - 16
        rest = some_halves(3 * len(tops), 22)
        numbers = []
        for at, top in enumerate(tops):
            low = rest[3 * at] << 32 | rest[3 * at + 1] << 16 | rest[3 * at + 2]
            numbers.append(top << below | low & (1 << below) - 1)
        return numbers

    def test_numbers_from_all_over(self):
        self.assert_rows(self.with_tops(some_halves(1600, 21)))

    def test_numbers_near_halves(self):
        """Those with an exponent that a half has, or nearly."""
        below = 8 * exact.WIDER[self.form.letter][0] - 16
        least, most = self.form.bits(2.0 ** -26) >> below, self.form.bits(2.0 ** 17) >> below
        self.assert_rows(self.with_tops([least + top % (most - least) | top & 0x8000 for top in some_halves(1600, 23)]))
