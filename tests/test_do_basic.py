"""Point 2, ops 0 to 4: sums, differences, products, quotients, roots."""

from tests.rows import INF, MINUS_INF, NAN, ONE, QUIETS, SIGNALLINGS, LaneTests

NO = (1, NAN)
# A sum that's exactly 0 of numbers of unlike signs.
ZERO_SUM = [(0, 0), (0, 0x8000), (0, 0), (0, 0)]


class Sums(LaneTests):
    def test_exact_sums(self):
        self.assert_table(0, [
            ((ONE, 0x4000), (0, 0x4200)),
            ((0xBC00, 0xC000), (0, 0xC200)),
            ((0x0001, 0x0001), (0, 0x0002)),
            ((0x03FF, 0x0001), (0, 0x0400)),
            ((0x0400, 0x8001), (0, 0x03FF)),
            ((0x8001, 0x8002), (0, 0x8003)),
        ])

    def test_rounded_sums(self):
        self.assert_table(0, [
            ((ONE, 0x1000), [(16, 0x3C00), (16, 0x3C00), (16, 0x3C01), (16, 0x3C00)]),
            ((0x3C01, 0x1000), [(16, 0x3C02), (16, 0x3C01), (16, 0x3C02), (16, 0x3C01)]),
            ((0xBC00, 0x9000), [(16, 0xBC00), (16, 0xBC01), (16, 0xBC00), (16, 0xBC00)]),
            ((ONE, 0x1001), [(16, 0x3C01), (16, 0x3C00), (16, 0x3C01), (16, 0x3C00)]),
            ((ONE, 0x8001), [(16, 0x3C00), (16, 0x3BFF), (16, 0x3C00), (16, 0x3BFF)]),
        ])

    def test_sums_that_are_zero(self):
        self.assert_table(0, [
            ((0x0000, 0x0000), (0, 0)),
            ((0x8000, 0x8000), (0, 0x8000)),
            ((0x0000, 0x8000), ZERO_SUM),
            ((0x8000, 0x0000), ZERO_SUM),
            ((ONE, 0xBC00), ZERO_SUM),
            ((0x8001, 0x0001), ZERO_SUM),
            ((0x7BFF, 0xFBFF), ZERO_SUM),
        ])

    def test_overflow(self):
        self.assert_table(0, [
            # 65512, 65520, 65536 and their like below 0
            ((0x7BFF, 0x4800), [(16, 0x7BFF), (16, 0x7BFF), (20, INF), (16, 0x7BFF)]),
            ((0x7BFF, 0x4C00), [(20, INF), (16, 0x7BFF), (20, INF), (16, 0x7BFF)]),
            ((0x7BFF, 0x5000), [(20, INF), (20, 0x7BFF), (20, INF), (20, 0x7BFF)]),
            ((0xFBFF, 0xC800), [(16, 0xFBFF), (20, MINUS_INF), (16, 0xFBFF), (16, 0xFBFF)]),
            ((0xFBFF, 0xCC00), [(20, MINUS_INF), (20, MINUS_INF), (16, 0xFBFF), (16, 0xFBFF)]),
            ((0xFBFF, 0xD000), [(20, MINUS_INF), (20, MINUS_INF), (20, 0xFBFF), (20, 0xFBFF)]),
            ((0x7BFF, 0x7BFF), [(20, INF), (20, 0x7BFF), (20, INF), (20, 0x7BFF)]),
        ])

    def test_infinities(self):
        self.assert_table(0, [
            ((INF, INF), (0, INF)),
            ((MINUS_INF, MINUS_INF), (0, MINUS_INF)),
            ((INF, 0xFBFF), (0, INF)),
            ((0x8000, MINUS_INF), (0, MINUS_INF)),
            ((INF, MINUS_INF), NO),
            ((MINUS_INF, INF), NO),
        ])


class Differences(LaneTests):
    def test_differences(self):
        self.assert_table(1, [
            ((0x4200, 0x4000), (0, ONE)),
            ((0x4000, 0x4200), (0, 0xBC00)),
            ((ONE, 0x9000), [(16, 0x3C00), (16, 0x3C00), (16, 0x3C01), (16, 0x3C00)]),
            ((ONE, 0x0001), [(16, 0x3C00), (16, 0x3BFF), (16, 0x3C00), (16, 0x3BFF)]),
            ((0xFBFF, 0x5000), [(20, MINUS_INF), (20, MINUS_INF), (20, 0xFBFF), (20, 0xFBFF)]),
        ])

    def test_differences_that_are_zero(self):
        self.assert_table(1, [
            ((ONE, ONE), ZERO_SUM),
            ((0, 0), ZERO_SUM),
            ((0x8000, 0x8000), ZERO_SUM),
            ((0x8000, 0), (0, 0x8000)),
            ((0, 0x8000), (0, 0)),
        ])

    def test_infinities(self):
        self.assert_table(1, [
            ((INF, INF), NO),
            ((MINUS_INF, MINUS_INF), NO),
            ((INF, MINUS_INF), (0, INF)),
            ((ONE, INF), (0, MINUS_INF)),
            ((MINUS_INF, ONE), (0, MINUS_INF)),
        ])


class Products(LaneTests):
    def test_products(self):
        self.assert_table(2, [
            ((0x4200, 0x4000), (0, 0x4600)),
            ((0xC200, 0x4000), (0, 0xC600)),
            ((0xC200, 0xC000), (0, 0x4600)),
            ((0x0002, 0x3800), (0, 0x0001)),
            ((0x3C01, 0x3C01), [(16, 0x3C02), (16, 0x3C02), (16, 0x3C03), (16, 0x3C02)]),
            ((0xBC01, 0x3C01), [(16, 0xBC02), (16, 0xBC03), (16, 0xBC02), (16, 0xBC02)]),
        ])

    def test_zeros_have_the_product_of_the_signs(self):
        self.assert_table(2, [
            ((0, 0), (0, 0)),
            ((0, 0x8000), (0, 0x8000)),
            ((0x8000, 0x8000), (0, 0)),
            ((0x8000, 0x4200), (0, 0x8000)),
            ((0xC200, 0), (0, 0x8000)),
        ])

    def test_underflow(self):
        self.assert_table(2, [
            ((0x0001, 0x3800), [(24, 0), (24, 0), (24, 1), (24, 0)]),
            ((0x0001, 0xB800), [(24, 0x8000), (24, 0x8001), (24, 0x8000), (24, 0x8000)]),
            ((0x0003, 0x3800), [(24, 2), (24, 1), (24, 2), (24, 1)]),
            ((0x0001, 0x0001), [(24, 0), (24, 0), (24, 1), (24, 0)]),
        ])

    def test_just_below_the_least_normal(self):
        self.assert_table(2, [
            # 2^-14 - 2^-25 has eleven bits: rounded to these it stays below 2^-14.
            ((0x3BFF, 0x0400), [(24, 0x0400), (24, 0x03FF), (24, 0x0400), (24, 0x03FF)]),
            ((0xBBFF, 0x0400), [(24, 0x8400), (24, 0x8400), (24, 0x83FF), (24, 0x83FF)]),
            # 2^-14 - 2^-34 is 2^-14 with eleven bits, where the direction leads there.
            ((0x3C01, 0x03FF), [(16, 0x0400), (24, 0x03FF), (16, 0x0400), (24, 0x03FF)]),
            ((0xBC01, 0x03FF), [(16, 0x8400), (16, 0x8400), (24, 0x83FF), (24, 0x83FF)]),
        ])

    def test_inexact_above_the_least_normal_is_no_underflow(self):
        self.assert_ways(2, (0x3C01, 0x0401), [(16, 0x0402), (16, 0x0402), (16, 0x0403), (16, 0x0402)])

    def test_exact_denormals_raise_nothing(self):
        self.assert_ways(2, (0x0400, 0x3800), (0, 0x0200))

    def test_overflow(self):
        self.assert_table(2, [
            ((0x7BFF, 0x4000), [(20, INF), (20, 0x7BFF), (20, INF), (20, 0x7BFF)]),
            ((0x7BFF, 0xC000), [(20, MINUS_INF), (20, MINUS_INF), (20, 0xFBFF), (20, 0xFBFF)]),
        ])

    def test_infinities(self):
        self.assert_table(2, [
            ((INF, 0x0001), (0, INF)),
            ((0xBC00, INF), (0, MINUS_INF)),
            ((MINUS_INF, MINUS_INF), (0, INF)),
            ((INF, 0), NO),
            ((0x8000, INF), NO),
            ((MINUS_INF, 0), NO),
        ])


class Quotients(LaneTests):
    def test_quotients(self):
        self.assert_table(3, [
            ((0x4600, 0x4000), (0, 0x4200)),
            ((0x4600, 0xC000), (0, 0xC200)),
            ((ONE, 0x4200), [(16, 0x3555), (16, 0x3555), (16, 0x3556), (16, 0x3555)]),
            ((0xBC00, 0x4200), [(16, 0xB555), (16, 0xB556), (16, 0xB555), (16, 0xB555)]),
            ((0x4000, 0x4200), [(16, 0x3955), (16, 0x3955), (16, 0x3956), (16, 0x3955)]),
            ((0x0001, 0x0003), [(16, 0x3555), (16, 0x3555), (16, 0x3556), (16, 0x3555)]),
        ])

    def test_underflow_and_overflow(self):
        self.assert_table(3, [
            ((0x0001, 0x4000), [(24, 0), (24, 0), (24, 1), (24, 0)]),
            ((0x8001, 0x7BFF), [(24, 0x8000), (24, 0x8001), (24, 0x8000), (24, 0x8000)]),
            ((0x0002, 0x4000), (0, 0x0001)),
            ((0x7BFF, 0x0001), [(20, INF), (20, 0x7BFF), (20, INF), (20, 0x7BFF)]),
            ((0x07FF, 0x4000), [(24, 0x0400), (24, 0x03FF), (24, 0x0400), (24, 0x03FF)]),
        ])

    def test_division_by_zero(self):
        self.assert_table(3, [
            ((ONE, 0), (2, INF)),
            ((ONE, 0x8000), (2, MINUS_INF)),
            ((0x8001, 0), (2, MINUS_INF)),
            ((0xFBFF, 0x8000), (2, INF)),
        ])

    def test_zeros_and_infinities(self):
        self.assert_table(3, [
            ((0, 0), NO),
            ((0x8000, 0), NO),
            ((INF, INF), NO),
            ((INF, MINUS_INF), NO),
            ((INF, 0), (0, INF)),
            ((INF, 0x8000), (0, MINUS_INF)),
            ((MINUS_INF, 0x4000), (0, MINUS_INF)),
            ((0x4000, MINUS_INF), (0, 0x8000)),
            ((0x4000, INF), (0, 0)),
            ((0, 0xC000), (0, 0x8000)),
            ((0x8000, 0xC000), (0, 0)),
            ((0, INF), (0, 0)),
        ])


class Roots(LaneTests):
    def test_roots(self):
        self.assert_table(4, [
            ((0x4400,), (0, 0x4000)),
            ((0x4000,), [(16, 0x3DA8), (16, 0x3DA8), (16, 0x3DA9), (16, 0x3DA8)]),
            ((0x4200,), [(16, 0x3EEE), (16, 0x3EED), (16, 0x3EEE), (16, 0x3EED)]),
            ((0x0001,), (0, 0x0C00)),
            ((0x7BFF,), [(16, 0x5BFF), (16, 0x5BFF), (16, 0x5C00), (16, 0x5BFF)]),
            ((0,), (0, 0)),
            ((0x8000,), (0, 0x8000)),
            ((INF,), (0, INF)),
        ])

    def test_of_numbers_below_zero(self):
        for half in (0x8001, 0x8400, 0xBC00, 0xC400, 0xFBFF, MINUS_INF):
            self.assert_ways(4, (half,), NO)


class NoNumbers(LaneTests):
    def test_quiet_ones_raise_nothing(self):
        for quiet in QUIETS:
            for op in range(4):
                for other in (ONE, 0, INF, 0x7E55):
                    self.assert_ways(op, (quiet, other), (0, NAN))
                    self.assert_ways(op, (other, quiet), (0, NAN))
            self.assert_ways(4, (quiet,), (0, NAN))

    def test_signalling_ones_are_invalid(self):
        for signalling in SIGNALLINGS:
            for op in range(4):
                for other in (ONE, 0, INF, 0x7E55):
                    self.assert_ways(op, (signalling, other), NO)
                    self.assert_ways(op, (other, signalling), NO)
            self.assert_ways(4, (signalling,), NO)

    def test_what_the_op_does_not_take_does_not_matter(self):
        for op, half in ((0, 0x4000), (1, 0), (2, ONE), (3, ONE)):
            expected = (0, half) if op != 1 else ZERO_SUM
            self.assert_ways(op, (ONE, ONE, 0x7C01), expected)
        self.assert_ways(4, (0x4400, 0x7C01, 0xFDFF), (0, 0x4000))
