"""Point 10: sixteen complex products, each part rounded twice."""

import struct
import unittest

from halfrowsdesk.lanes import times
from tests import exact
from tests.rows import INF, MINUS_INF, NAN, ONE, QUIETS, REFUSED, SIGNALLINGS, SIGNED_EDGES, WAYS, row, some_halves

TWO, THREE, FOUR = 0x4000, 0x4200, 0x4400
MINUS_ZERO, MINUS_ONE = 0x8000, 0xBC00
FEW = (0, 0x8000, 1, 0x8400, 0x3C01, 0xBC01, 0x7BFF, 0xFBFF, 0x7C00, 0xFC00, 0x7E00, 0x7C01)


def half_of(number):
    return int.from_bytes(struct.pack("<e", number), "little")


def product(other, way, x, y, pair=0):
    """What's raised and both parts, where all other lanes are 1, which raises nothing."""
    at = 2 * pair
    answer = times(other, way, row({at: x[0], at + 1: x[1]}), row({at: y[0], at + 1: y[1]}))
    return (answer[0], answer[1 + at], answer[2 + at])


class ProductTests(unittest.TestCase):
    def assert_ways(self, other, x, y, expected):
        """One expected (raised, real, imaginary) for each direction, or one for all four."""
        if isinstance(expected, tuple):
            expected = [expected] * 4
        for way in WAYS:
            for pair in (0, 1, 8, 15):
                with self.subTest(other=other, way=way, x=[hex(part) for part in x], y=[hex(part) for part in y],
                                  pair=pair):
                    self.assertEqual(product(other, way, x, y, pair), expected[way])


class Exact(ProductTests):
    def test_small_numbers(self):
        # (1 + 2i)(3 + 4i) is -5 + 10i, (1 + 2i)(3 - 4i) is 11 + 2i, (3 + 4i)(1 - 2i) is 11 - 2i.
        self.assert_ways(0, (ONE, TWO), (THREE, FOUR), (0, 0xC500, 0x4900))
        self.assert_ways(1, (ONE, TWO), (THREE, FOUR), (0, 0x4980, 0x4000))
        self.assert_ways(1, (THREE, FOUR), (ONE, TWO), (0, 0x4980, 0xC000))

    def test_all_pairs_of_a_row(self):
        for other in (0, 1):
            a, b, parts = [], [], []
            for k in range(16):
                x, y = complex(k + 1, 2 - k), complex(3 - k, k - 20)
                z = x * (y.conjugate() if other else y)
                a += [half_of(x.real), half_of(x.imag)]
                b += [half_of(y.real), half_of(y.imag)]
                parts += [half_of(z.real + 0.0), half_of(z.imag + 0.0)]
            for way in WAYS:
                expected = [0x8000 if way == 1 and half == 0 else half for half in parts]
                self.assertEqual(times(other, way, a, b), [0] + expected)


class RoundedTwice(ProductTests):
    def test_the_first_product_is_rounded_by_itself(self):
        # (1 + 2^-10)^2 less 1 + 2^-9 would be 2^-20 if it were rounded once.
        self.assert_ways(0, (0x3C01, 0x3C02), (0x3C01, ONE), [
            (16, 0x0000, 0x4002), (16, 0x8000, 0x4002), (16, 0x1400, 0x4003), (16, 0x0000, 0x4002),
        ])
        self.assert_ways(1, (0x3C01, 0x3C02), (0x3C01, MINUS_ONE), [
            (16, 0x0000, 0x4002), (16, 0x8000, 0x4002), (16, 0x1400, 0x4003), (16, 0x0000, 0x4002),
        ])

    def test_the_first_product_of_the_imaginary_part_too(self):
        # x's imaginary by y's real part is (1 + 2^-10)^2, less 1 + 2^-9.
        self.assert_ways(0, (0xBC02, 0x3C01), (0x3C01, ONE), [
            (16, 0xC002, 0x0000), (16, 0xC003, 0x8000), (16, 0xC002, 0x1400), (16, 0xC002, 0x0000),
        ])

    def test_the_second_product_is_not(self):
        # 1 + 2^-9 less (1 + 2^-10)^2 is -2^-20, and with both signs turned 2^-20.
        self.assert_ways(0, (0x3C02, 0x3C01), (ONE, 0x3C01), [
            (16, 0x8010, 0x4002), (16, 0x8010, 0x4002), (16, 0x8010, 0x4003), (16, 0x8010, 0x4002),
        ])
        self.assert_ways(1, (0xBC02, 0x3C01), (ONE, 0x3C01), [
            (16, 0x0010, 0x4002), (16, 0x0010, 0x4002), (16, 0x0010, 0x4003), (16, 0x0010, 0x4002),
        ])

    def test_an_inexact_first_step_is_told_where_the_second_is_exact(self):
        self.assert_ways(0, (0x3C01, 0), (0x3C01, 0), [
            (16, 0x3C02, 0x0000), (16, 0x3C02, 0x0000), (16, 0x3C03, 0x0000), (16, 0x3C02, 0x0000),
        ])

    def test_an_inexact_second_step_is_told_where_the_first_is_exact(self):
        # 1 - 2^-24, and 2^-24 + 1.
        self.assert_ways(0, (ONE, 0x0001), (ONE, ONE), [
            (16, 0x3C00, 0x3C00), (16, 0x3BFF, 0x3C00), (16, 0x3C00, 0x3C01), (16, 0x3BFF, 0x3C00),
        ])
        self.assert_ways(1, (ONE, 0x0001), (ONE, ONE), [
            (16, 0x3C00, 0xBC00), (16, 0x3C00, 0xBC00), (16, 0x3C01, 0xBBFF), (16, 0x3C00, 0xBBFF),
        ])

    def test_underflow_of_either_step(self):
        self.assert_ways(0, (0x0001, 0), (0x3800, 0), [
            (24, 0, 0), (24, 0x8000, 0), (24, 1, 0), (24, 0, 0),
        ])
        self.assert_ways(0, (0, 0x0001), (0, 0x3800), [
            (24, 0x8000, 0), (24, 0x8001, 0), (24, 0x8000, 0), (24, 0x8000, 0),
        ])

    def test_parts_that_are_given_up_between_the_steps(self):
        # In direction 2 the first product is 2^-24 for 2^-48: exact from there on.
        self.assert_ways(0, (0x0001, 0x0001), (0x0001, 0), [
            (24, 0, 0), (24, 0x8000, 0), (24, 1, 1), (24, 0, 0),
        ])


class Overflow(ProductTests):
    def test_of_the_first_step(self):
        self.assert_ways(0, (0x7BFF, 0), (0x7BFF, 0), [
            (20, INF, 0), (20, 0x7BFF, 0), (20, INF, 0), (20, 0x7BFF, 0),
        ])
        # 131008 - 65504 would be 65504 if it were rounded once.
        self.assert_ways(0, (0x7BFF, 0x7BFF), (TWO, ONE), [
            (20, INF, INF), (20, 0x8000, 0x7BFF), (20, INF, INF), (20, 0, 0x7BFF),
        ])
        self.assert_ways(1, (0x7BFF, 0x7BFF), (TWO, MINUS_ONE), [
            (20, INF, INF), (20, 0x8000, 0x7BFF), (20, INF, INF), (20, 0, 0x7BFF),
        ])

    def test_of_the_first_step_to_an_infinity_that_meets_another(self):
        self.assert_ways(0, (0x7BFF, INF), (0x7BFF, ONE), [
            (21, NAN, INF), (20, MINUS_INF, INF), (21, NAN, INF), (20, MINUS_INF, INF),
        ])
        self.assert_ways(1, (0x7BFF, INF), (0x7BFF, ONE), [
            (20, INF, INF), (20, INF, INF), (20, INF, INF), (20, INF, INF),
        ])

    def test_of_the_second_step(self):
        # 65504 + 16, and 65504 - 16.
        self.assert_ways(0, (0x7BFF, 0xCC00), (ONE, ONE), [
            (20, INF, 0x7BFE), (16, 0x7BFF, 0x7BFE), (20, INF, 0x7BFF), (16, 0x7BFF, 0x7BFE),
        ])
        self.assert_ways(1, (0x7BFF, 0x4C00), (ONE, ONE), [
            (20, INF, 0xFBFE), (16, 0x7BFF, 0xFBFF), (20, INF, 0xFBFE), (16, 0x7BFF, 0xFBFE),
        ])


class Infinities(ProductTests):
    def test_infinite_parts(self):
        self.assert_ways(0, (INF, ONE), (TWO, THREE), (0, INF, INF))
        self.assert_ways(0, (ONE, INF), (TWO, THREE), (0, MINUS_INF, INF))
        self.assert_ways(1, (ONE, INF), (TWO, THREE), (0, INF, INF))
        self.assert_ways(1, (INF, ONE), (TWO, THREE), (0, INF, MINUS_INF))
        self.assert_ways(0, (ONE, TWO), (MINUS_INF, ONE), (0, MINUS_INF, MINUS_INF))

    def test_infinities_that_meet(self):
        self.assert_ways(0, (INF, INF), (ONE, ONE), (1, NAN, INF))
        self.assert_ways(1, (INF, INF), (ONE, ONE), (1, INF, NAN))
        self.assert_ways(0, (ONE, ONE), (INF, INF), (1, NAN, INF))
        self.assert_ways(0, (ONE, ONE), (INF, MINUS_INF), (1, INF, NAN))
        self.assert_ways(1, (ONE, ONE), (INF, MINUS_INF), (1, NAN, INF))

    def test_zero_times_infinity_in_each_product(self):
        for zero in (0, MINUS_ZERO):
            self.assert_ways(0, (zero, ONE), (INF, ONE), (1, NAN, INF))
            self.assert_ways(0, (ONE, zero), (INF, ONE), (1, INF, NAN))
            self.assert_ways(0, (ONE, zero), (ONE, INF), (1, NAN, INF))
            self.assert_ways(0, (zero, ONE), (ONE, INF), (1, MINUS_INF, NAN))
            self.assert_ways(1, (zero, ONE), (ONE, INF), (1, INF, NAN))
            self.assert_ways(0, (INF, ONE), (zero, ONE), (1, NAN, INF))
            self.assert_ways(0, (INF, ONE), (ONE, zero), (1, INF, NAN))


class NoNumbers(ProductTests):
    def with_one_part(self, half, others):
        for place in range(4):
            parts = list(others)
            parts[place] = half
            yield tuple(parts[:2]), tuple(parts[2:])

    def test_quiet_ones_in_each_part(self):
        for other in (0, 1):
            for quiet in QUIETS:
                for x, y in self.with_one_part(quiet, (ONE, TWO, THREE, FOUR)):
                    self.assert_ways(other, x, y, (0, NAN, NAN))
                for x, y in self.with_one_part(quiet, (INF, TWO, INF, FOUR)):
                    self.assert_ways(other, x, y, (0, NAN, NAN))

    def test_signalling_ones_in_each_part(self):
        for other in (0, 1):
            for signalling in SIGNALLINGS:
                for x, y in self.with_one_part(signalling, (ONE, TWO, THREE, FOUR)):
                    self.assert_ways(other, x, y, (1, NAN, NAN))
                for x, y in self.with_one_part(signalling, (NAN, NAN, NAN, NAN)):
                    self.assert_ways(other, x, y, (1, NAN, NAN))

    def test_with_zero_times_infinity(self):
        for other in (0, 1):
            # The first product of the imaginary part is invalid by itself.
            self.assert_ways(other, (NAN, 0), (INF, ONE), (1, NAN, NAN))
            # A second step that has no number as an argument is invalid only by a signalling one.
            self.assert_ways(other, (NAN, 0), (ONE, INF), (0, NAN, NAN))


class Zeros(ProductTests):
    def test_signs_of_zeros(self):
        unlike_real = [(0, 0, 0), (0, MINUS_ZERO, 0), (0, 0, 0), (0, 0, 0)]
        unlike_imaginary = [(0, 0, 0), (0, 0, MINUS_ZERO), (0, 0, 0), (0, 0, 0)]
        self.assert_ways(0, (0, 0), (ONE, ONE), unlike_real)
        self.assert_ways(0, (0, MINUS_ZERO), (ONE, ONE), unlike_imaginary)
        self.assert_ways(1, (0, 0), (ONE, ONE), unlike_imaginary)
        self.assert_ways(0, (MINUS_ZERO, 0), (ONE, MINUS_ONE), [
            (0, 0, 0), (0, MINUS_ZERO, 0), (0, 0, 0), (0, 0, 0),
        ])
        self.assert_ways(0, (MINUS_ZERO, 0), (ONE, ONE), [
            (0, MINUS_ZERO, 0), (0, MINUS_ZERO, MINUS_ZERO), (0, MINUS_ZERO, 0), (0, MINUS_ZERO, 0),
        ])
        self.assert_ways(0, (MINUS_ZERO, MINUS_ZERO), (ONE, ONE), [
            (0, 0, MINUS_ZERO), (0, MINUS_ZERO, MINUS_ZERO), (0, 0, MINUS_ZERO), (0, 0, MINUS_ZERO),
        ])

    def test_the_other_sign_of_a_zero(self):
        # 1 times 0 with the other sign is -0: -0 with -0 added stays -0, -0 with 0 does not.
        self.assert_ways(1, (ONE, MINUS_ZERO), (ONE, 0), [(0, ONE, MINUS_ZERO)] * 4)
        self.assert_ways(0, (ONE, MINUS_ZERO), (ONE, 0), [
            (0, ONE, 0), (0, ONE, MINUS_ZERO), (0, ONE, 0), (0, ONE, 0),
        ])

    def test_parts_that_cancel(self):
        self.assert_ways(0, (ONE, ONE), (ONE, ONE), [(0, 0, TWO), (0, MINUS_ZERO, TWO), (0, 0, TWO), (0, 0, TWO)])
        self.assert_ways(1, (ONE, ONE), (ONE, ONE), [(0, TWO, 0), (0, TWO, MINUS_ZERO), (0, TWO, 0), (0, TWO, 0)])


class Together(unittest.TestCase):
    def test_all_lanes_and_both_steps(self):
        a = row({0: 0, 6: 0x0001, 15: 0, 30: 0x7BFF, 31: 0})
        b = row({0: INF, 6: 0x3800, 7: 0, 15: 0, 30: 0x7BFF, 31: 0})
        for way in WAYS:
            self.assertEqual(times(0, way, a, b)[0], 29)
            self.assertEqual(times(0, way, a[2:] + [ONE] * 2, b[2:] + [ONE] * 2)[0], 28)
            self.assertEqual(times(0, way, [ONE] * 2 + a[:30], [ONE] * 2 + b[:30])[0], 25)

    def test_each_pair_alone_raises(self):
        for pair in range(16):
            for way in WAYS:
                self.assertEqual(product(0, way, (INF, INF), (ONE, ONE), pair), (1, NAN, INF))
                self.assertEqual(product(1, way, (INF, INF), (ONE, ONE), pair), (1, INF, NAN))

    def test_pairs_do_not_mix(self):
        for other in (0, 1):
            a, b = some_halves(32, other + 30), some_halves(32, other + 40)
            for way in WAYS:
                parts = times(other, way, a, b)[1:]
                for pair in range(16):
                    at = slice(2 * pair, 2 * pair + 2)
                    self.assertEqual(list(product(other, way, a[at], b[at], pair)[1:]), parts[at])


class AgainstExact(unittest.TestCase):
    def test_edges(self):
        pairs = [(x, y) for x in FEW for y in FEW]
        for x in pairs:
            for at, y in enumerate(pairs):
                other, way = at % 2, (at + x[0] + x[1]) // 2 % 4
                expected = exact.together(exact.complex_product(other, way, *x, *y))
                self.assertEqual(list(product(other, way, x, y, at % 16)), expected, (other, way, x, y))

    def test_rows_of_edges(self):
        for turn in range(44):
            a = [SIGNED_EDGES[(turn + 7 * j) % 44] for j in range(32)]
            b = [SIGNED_EDGES[(turn * 5 + 3 * j + 1) % 44] for j in range(32)]
            self.assert_rows(a, b)

    def test_halves_from_all_over(self):
        for turn in range(60):
            self.assert_rows(some_halves(32, 500 + turn), some_halves(32, 700 + turn))

    def test_near_one(self):
        for turn in range(60):
            a = [half & 0x87FF | 0x3800 for half in some_halves(32, 900 + turn)]
            b = [half & 0x87FF | 0x3800 for half in some_halves(32, 1100 + turn)]
            self.assert_rows(a, b)

    def assert_rows(self, a, b):
        for other in (0, 1):
            for way in WAYS:
                self.assertEqual(times(other, way, a, b), exact.times(other, way, a, b), (other, way, a, b))


class Refused(unittest.TestCase):
    def test_other(self):
        for other in (2, 3, 256, 4294967295):
            for way in WAYS:
                self.assertEqual(times(other, way, row(), row()), [REFUSED] + [0] * 32)

    def test_way(self):
        for way in (4, 5, 256, 4294967295):
            for other in (0, 1, 2, 4294967295):
                self.assertEqual(times(other, way, row(), row()), [REFUSED] + [0] * 32)
