"""Point 2, ops 5 to 10: a product and a sum, rounded once."""

from halfrowsdesk.lanes import do
from tests.rows import INF, MINUS_INF, NAN, ONE, QUIETS, SIGNALLINGS, WAYS, LaneTests, one, row

NO = (1, NAN)
ZERO_SUM = [(0, 0), (0, 0x8000), (0, 0), (0, 0)]
TWO, THREE = 0x4000, 0x4200


class Fused(LaneTests):
    def test_exact(self):
        self.assert_ways(5, (TWO, THREE, ONE), (0, 0x4700))
        self.assert_ways(6, (TWO, THREE, ONE), (0, 0x4500))
        self.assert_ways(7, (TWO, THREE, ONE), (0, 0xC500))
        self.assert_ways(8, (TWO, THREE, ONE), (0, 0xC700))

    def test_the_product_is_not_rounded_by_itself(self):
        # (1 + 2^-10)^2 - (1 + 2^-9) is 2^-20.
        self.assert_ways(5, (0x3C01, 0x3C01, 0xBC02), (0, 0x0010))
        self.assert_ways(6, (0x3C01, 0x3C01, 0x3C02), (0, 0x0010))
        self.assert_ways(7, (0x3C01, 0x3C01, 0x3C02), (0, 0x8010))
        self.assert_ways(8, (0x3C01, 0x3C01, 0xBC02), (0, 0x8010))

    def test_a_product_beyond_the_greatest_half_may_come_back(self):
        self.assert_ways(6, (0x7BFF, TWO, 0x7BFF), (0, 0x7BFF))
        self.assert_ways(7, (0x7BFF, TWO, 0x7BFF), (0, 0xFBFF))

    def test_the_direction_is_that_of_the_whole(self):
        above = [(16, 0x3C00), (16, 0x3C00), (16, 0x3C01), (16, 0x3C00)]
        below = [(16, 0xBC00), (16, 0xBC01), (16, 0xBC00), (16, 0xBC00)]
        self.assert_ways(5, (ONE, ONE, 0x1000), above)
        self.assert_ways(6, (ONE, ONE, 0x9000), above)
        self.assert_ways(7, (0xBC00, ONE, 0x1000), above)
        self.assert_ways(7, (ONE, ONE, 0x9000), below)
        self.assert_ways(8, (ONE, ONE, 0x1000), below)

    def test_a_product_too_small_for_a_half_still_counts(self):
        up = [(16, ONE), (16, ONE), (16, 0x3C01), (16, ONE)]
        self.assert_ways(5, (1, 1, ONE), up)
        self.assert_ways(6, (1, 1, 0xBC00), up)
        self.assert_ways(7, (1, 1, ONE), [(16, ONE), (16, 0x3BFF), (16, ONE), (16, 0x3BFF)])

    def test_sums_that_are_zero(self):
        self.assert_table(5, [
            ((ONE, ONE, 0xBC00), ZERO_SUM),
            ((0, ONE, 0), (0, 0)),
            ((0x8000, ONE, 0), ZERO_SUM),
            ((0x8000, ONE, 0x8000), (0, 0x8000)),
            ((0, 0xBC00, 0x8000), (0, 0x8000)),
        ])
        self.assert_table(6, [((ONE, ONE, ONE), ZERO_SUM), ((0, ONE, 0), ZERO_SUM), ((0, ONE, 0x8000), (0, 0))])
        self.assert_table(7, [((ONE, ONE, ONE), ZERO_SUM), ((0, ONE, 0), ZERO_SUM), ((0x8000, ONE, 0), (0, 0))])
        self.assert_table(8, [
            ((ONE, ONE, 0xBC00), ZERO_SUM),
            ((0, ONE, 0), (0, 0x8000)),
            ((0x8000, ONE, 0x8000), (0, 0)),
            ((0, ONE, 0x8000), ZERO_SUM),
        ])

    def test_underflow_and_overflow(self):
        self.assert_table(5, [
            ((1, 1, 0), [(24, 0), (24, 0), (24, 1), (24, 0)]),
            ((1, 0x8001, 1), [(24, 1), (24, 0), (24, 1), (24, 0)]),
            ((0x3BFF, 0x0400, 0), [(24, 0x0400), (24, 0x03FF), (24, 0x0400), (24, 0x03FF)]),
            ((1, 0x8001, 0x0400), [(16, 0x0400), (24, 0x03FF), (16, 0x0400), (24, 0x03FF)]),
            ((0x7BFF, ONE, 0x4C00), [(20, INF), (16, 0x7BFF), (20, INF), (16, 0x7BFF)]),
            ((0x7BFF, 0x7BFF, 0xFBFF), [(20, INF), (20, 0x7BFF), (20, INF), (20, 0x7BFF)]),
        ])
        self.assert_ways(8, (0x7BFF, 0x7BFF, 0), [(20, MINUS_INF), (20, MINUS_INF), (20, 0xFBFF), (20, 0xFBFF)])

    def test_infinities(self):
        self.assert_table(5, [
            ((INF, TWO, ONE), (0, INF)),
            ((INF, 0xC000, 0x7BFF), (0, MINUS_INF)),
            ((INF, TWO, INF), (0, INF)),
            ((INF, TWO, MINUS_INF), NO),
            ((0xC000, INF, INF), NO),
            ((TWO, THREE, MINUS_INF), (0, MINUS_INF)),
            ((0x7BFF, 0x7BFF, MINUS_INF), (0, MINUS_INF)),
            ((0, INF, ONE), NO),
            ((MINUS_INF, 0x8000, INF), NO),
        ])
        self.assert_table(6, [((INF, TWO, INF), NO), ((INF, TWO, MINUS_INF), (0, INF)), ((0, INF, ONE), NO)])
        self.assert_table(7, [((INF, TWO, INF), NO), ((INF, TWO, MINUS_INF), (0, MINUS_INF)), ((0, INF, ONE), NO)])
        self.assert_table(8, [((INF, TWO, MINUS_INF), NO), ((INF, TWO, INF), (0, MINUS_INF)), ((0, INF, ONE), NO)])

    def test_no_numbers(self):
        for op in range(5, 11):
            for place in range(3):
                for quiet in QUIETS:
                    arguments = [ONE, INF, TWO]
                    arguments[place] = quiet
                    self.assert_ways(op, tuple(arguments), (0, NAN))
                for signalling in SIGNALLINGS:
                    arguments = [ONE, NAN, NAN]
                    arguments[place] = signalling
                    self.assert_ways(op, tuple(arguments), NO)

    def test_zero_times_infinity_and_no_number(self):
        # The lane has no number as an argument: so only a signalling one makes it invalid.
        for op in range(5, 11):
            self.assert_ways(op, (0, INF, NAN), (0, NAN))
            self.assert_ways(op, (0, INF, 0x7C01), NO)


class ByTurns(LaneTests):
    def test_even_and_odd_lanes(self):
        for way in WAYS:
            a, b, c = row(fill=TWO), row(fill=THREE), row(fill=ONE)
            self.assertEqual(do(9, way, a, b, c), [0] + [0x4500, 0x4700] * 16)
            self.assertEqual(do(10, way, a, b, c), [0] + [0x4700, 0x4500] * 16)

    def test_each_lane_is_that_of_op_5_or_6(self):
        arguments = ((0x3C01, 0x3C01, 0x3C02), (ONE, ONE, 0x1000), (0, ONE, 0), (INF, ONE, INF), (0x7BFF, ONE, 0x4C00))
        for way in WAYS:
            for a, b, c in arguments:
                for lane in range(32):
                    turns = (6, 5) if lane % 2 == 0 else (5, 6)
                    self.assertEqual(one(9, way, a, b, c, lane), one(turns[0], way, a, b, c, lane))
                    self.assertEqual(one(10, way, a, b, c, lane), one(turns[1], way, a, b, c, lane))
