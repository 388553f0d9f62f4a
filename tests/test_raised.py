"""What all lanes raise together; refused calls; what is handed in stays; nothing is kept."""

import unittest
from itertools import combinations

from halfrowsdesk.lanes import do, holds, is_kind, of, of_double, of_float, order, poly, sum_of, times
from halfrowsdesk.lanes import to_double, to_float, where, whole
from tests.rows import INF, ONE, REFUSED, SIGNED_EDGES, WAYS, row, some_halves

# Divisions that raise a thing each, in lanes of their own.
DIVISIONS = {
    0: (0, 0, 1),
    5: (ONE, 0, 2),
    16: (0x7BFF, 0x0001, 20),
    30: (0x0001, 0x4200, 24),
    31: (ONE, 0x4200, 16),
}


class Raised(unittest.TestCase):
    def test_lanes_raise_together(self):
        for way in WAYS:
            for count in range(len(DIVISIONS) + 1):
                for lanes in combinations(DIVISIONS, count):
                    a = row({lane: DIVISIONS[lane][0] for lane in lanes})
                    b = row({lane: DIVISIONS[lane][1] for lane in lanes})
                    expected = 0
                    for lane in lanes:
                        expected |= DIVISIONS[lane][2]
                    with self.subTest(way=way, lanes=lanes):
                        self.assertEqual(do(3, way, a, b, row())[0], expected)

    def test_every_lane_raises(self):
        for lane in range(32):
            self.assertEqual(do(0, 0, row({lane: INF}), row({lane: 0xFC00}), row())[0], 1)
            self.assertEqual(do(0, 0, row({lane: 0x7BFF}), row({lane: 0x7BFF}), row())[0], 20)
            self.assertEqual(do(2, 0, row({lane: 0x0001}), row({lane: 0x3800}), row())[0], 24)
            self.assertEqual(do(3, 0, row({lane: ONE}), row({lane: 0}), row())[0], 2)
            self.assertEqual(do(4, 0, row({lane: 0x4000}), row(), row())[0], 16)

    def test_lanes_do_not_mix(self):
        for op in range(18):
            rows = (some_halves(32, op), some_halves(32, op + 50), some_halves(32, op + 100))
            for way in WAYS:
                halves = do(op, way, *rows)[1:]
                for lane in range(32):
                    alone = do(op, way, *[row({lane: halves_in[lane]}) for halves_in in rows])
                    self.assertEqual(alone[1 + lane], halves[lane])


class Refused(unittest.TestCase):
    def test_op(self):
        for op in (18, 19, 32, 65536, 4294967295):
            for way in WAYS:
                self.assertEqual(do(op, way, row(), row(), row()), [REFUSED] + [0] * 32)

    def test_way(self):
        for way in (4, 5, 256, 4294967295):
            for op in (*range(18), 18, 4294967295):
                self.assertEqual(do(op, way, row(), row(), row()), [REFUSED] + [0] * 32)

    def test_how(self):
        for how in (32, 33, 63, 64, 4294967295):
            self.assertEqual(holds(how, row(), row()), [REFUSED, 0])

    def test_the_last_that_are_told_are_taken(self):
        self.assertEqual(do(17, 3, row(), row(), row()), [0] * 33)
        self.assertEqual(holds(31, row(), row()), [0, 4294967295])
        self.assertEqual(times(1, 3, row(), row()), [0] + [0x4000, 0] * 16)
        self.assertEqual(whole(1, 3, row()), [0] + [1] * 32)
        self.assertEqual(of(1, 3, [1] * 32), [0] + row())
        self.assertEqual(of_float(3, [0x3F800000] * 16), [0] + [ONE] * 16)
        self.assertEqual(of_double(3, [0x3FF0000000000000] * 8), [0] + [ONE] * 8)
        self.assertEqual(sum_of(3, [ONE]), [0, ONE])
        self.assertEqual(poly(3, ONE, [ONE]), [0, ONE])


def calls(a, b, c):
    """Every sort of call on the rows, refused ones too."""
    for op in range(19):
        for way in range(5):
            yield lambda op=op, way=way: do(op, way, a, b, c)
    for how in range(33):
        yield lambda how=how: holds(how, a, b)
    for which in (0, 1, 255, 256, 4294967295):
        yield lambda which=which: is_kind(which, a)
    for mask in (0, 1, 0x55555555, 0x80000000, 4294967295):
        yield lambda mask=mask: where(mask, a, b)
    for choice in range(3):
        for way in range(5):
            yield lambda choice=choice, way=way: times(choice, way, a, b)
            yield lambda choice=choice, way=way: whole(choice, way, a)
            yield lambda choice=choice, way=way: of(choice, way, a)


def short_calls(for_floats, floats, for_doubles, doubles):
    """The same with shorter rows."""
    yield lambda: to_float(for_floats)
    yield lambda: to_double(for_doubles)
    for way in range(5):
        yield lambda way=way: of_float(way, floats)
        yield lambda way=way: of_double(way, doubles)


def list_calls(halves):
    """The same with a list."""
    for way in range(5):
        yield lambda way=way: sum_of(way, halves)
        for x in (0, 0x3801, 0xC000, 0x7C01):
            yield lambda way=way, x=x: poly(way, x, halves)
    yield lambda: order(halves)


class Watched(list):
    """A list that can't be changed, not for a while either."""

    def changed(self, *arguments, **named):
        raise AssertionError("a list that was handed in is changed")

    append = clear = extend = insert = pop = remove = reverse = sort = changed
    __setitem__ = __delitem__ = __iadd__ = __imul__ = changed


class Rows(unittest.TestCase):
    def setUp(self):
        self.rows = [list(SIGNED_EDGES[:32]), list(SIGNED_EDGES[-32:]), some_halves(32, 7)]
        self.short_rows = [
            list(SIGNED_EDGES[-16:]), [half << 16 | half for half in SIGNED_EDGES[14:30]],
            list(SIGNED_EDGES[-8:]), [half << 48 | half for half in SIGNED_EDGES[17:25]],
        ]
        # The last is longer than a list may be.
        self.lists = [[], [0x8000], list(SIGNED_EDGES), some_halves(500, 8), [ONE] * 65537]

    def all_calls(self):
        found = [*calls(*self.rows), *short_calls(*self.short_rows)]
        for halves in self.lists:
            found += list_calls(halves)
        return found

    def test_what_is_handed_in_stays(self):
        rows = self.rows + self.short_rows + self.lists
        before = [list(numbers) for numbers in rows]
        for call in self.all_calls():
            call()
            self.assertEqual(rows, before)

    def test_what_is_handed_in_stays_all_the_while(self):
        expected = [call() for call in self.all_calls()]
        self.rows = [Watched(numbers) for numbers in self.rows]
        self.short_rows = [Watched(numbers) for numbers in self.short_rows]
        self.lists = [Watched(numbers) for numbers in self.lists]
        self.assertEqual([call() for call in self.all_calls()], expected)

    def test_one_list_may_be_handed_in_thrice(self):
        a = self.rows[0]
        for call, apart in zip(calls(a, a, a), calls(list(a), list(a), list(a))):
            self.assertEqual(call(), apart())

    def test_nothing_is_kept(self):
        first = [call() for call in self.all_calls()]
        for answer in first:
            answer[0] += 1
        again = [call() for call in reversed(self.all_calls())]
        again.reverse()
        for answer, other in zip(first, again):
            self.assertEqual(answer[0] - 1, other[0])
            self.assertEqual(answer[1:], other[1:])
            self.assertIsNot(answer, other)

    def test_answers_are_lists_of_whole_numbers(self):
        for call in self.all_calls():
            answer = call()
            self.assertIs(type(answer), list)
            for value in answer:
                self.assertIs(type(value), int)

    def test_answers_have_all_their_numbers(self):
        a, b, c = self.rows
        for op in range(19):
            for way in range(5):
                self.assertEqual(len(do(op, way, a, b, c)), 33)
        for how in range(33):
            self.assertEqual(len(holds(how, a, b)), 2)
        self.assertEqual(len(is_kind(255, a)), 2)
        self.assertEqual(len(where(1, a, b)), 33)
        for choice in range(3):
            for way in range(5):
                self.assertEqual(len(times(choice, way, a, b)), 33)
                self.assertEqual(len(whole(choice, way, a)), 33)
                self.assertEqual(len(of(choice, way, a)), 33)

    def test_shorter_answers_have_all_their_numbers(self):
        for_floats, floats, for_doubles, doubles = self.short_rows
        self.assertEqual(len(to_float(for_floats)), 17)
        self.assertEqual(len(to_double(for_doubles)), 9)
        for way in range(5):
            self.assertEqual(len(of_float(way, floats)), 17)
            self.assertEqual(len(of_double(way, doubles)), 9)
            for halves in self.lists:
                self.assertEqual(len(sum_of(way, halves)), 2)
                self.assertEqual(len(poly(way, ONE, halves)), 2)

    def test_order_answers_as_many_or_one(self):
        for halves in self.lists[:-1]:
            self.assertEqual(len(order(halves)), 1 + len(halves))
        self.assertEqual(len(order(self.lists[-1])), 1)
