"""Points 3 to 6, ops 11 to 17."""

from tests.rows import INF, MINUS_INF, NAN, ONE, QUIETS, SIGNALLINGS, LaneTests

NO = (1, NAN)
TWO, THREE = 0x4000, 0x4200


class LesserAndGreater(LaneTests):
    def test_numbers(self):
        ordered = (MINUS_INF, 0xFBFF, 0xC000, 0xBC00, 0x8400, 0x8001, 0, 1, 0x0400, ONE, TWO, 0x7BFF, INF)
        for at, low in enumerate(ordered):
            self.assert_ways(11, (low, low), (0, low))
            self.assert_ways(12, (low, low), (0, low))
            for high in ordered[at + 1:]:
                self.assert_ways(11, (low, high), (0, low))
                self.assert_ways(11, (high, low), (0, low))
                self.assert_ways(12, (low, high), (0, high))
                self.assert_ways(12, (high, low), (0, high))

    def test_of_two_zeros_it_is_b(self):
        for op in (11, 12):
            self.assert_table(op, [((0, 0x8000), (0, 0x8000)), ((0x8000, 0), (0, 0)), ((0x8000, 0x8000), (0, 0x8000))])

    def test_no_numbers(self):
        for op in (11, 12):
            for none in QUIETS + SIGNALLINGS:
                for b in (ONE, 0x8000, 1, MINUS_INF):
                    self.assert_ways(op, (none, b), (1, b))
                    self.assert_ways(op, (b, none), NO)
                self.assert_ways(op, (none, 0xFE01), NO)
                self.assert_ways(op, (0xFE01, none), NO)

    def test_c_does_not_matter(self):
        self.assert_ways(11, (ONE, TWO, 0x7C01), (0, ONE))
        self.assert_ways(12, (ONE, TWO, 0x7C01), (0, TWO))


class Exponents(LaneTests):
    def test_exponents(self):
        self.assert_table(13, [
            ((ONE,), (0, 0)),
            ((0xBC00,), (0, 0)),
            ((0x3FFF,), (0, 0)),
            ((TWO,), (0, ONE)),
            ((0xC200,), (0, ONE)),
            ((0x3800,), (0, 0xBC00)),
            ((0x3BFF,), (0, 0xBC00)),
            ((0x7BFF,), (0, 0x4B80)),
            ((0x0400,), (0, 0xCB00)),
            ((0x03FF,), (0, 0xCB80)),
            ((0x8001,), (0, 0xCE00)),
            ((0x0003,), (0, 0xCDC0)),
        ])

    def test_of_zeros_and_infinities(self):
        for zero in (0, 0x8000):
            self.assert_ways(13, (zero,), (0, MINUS_INF))
        for infinity in (INF, MINUS_INF):
            self.assert_ways(13, (infinity,), (0, INF))

    def test_without_exponents(self):
        self.assert_table(14, [
            ((ONE,), (0, ONE)),
            ((THREE,), (0, 0x3E00)),
            ((0xC200,), (0, 0xBE00)),
            ((0x7BFF,), (0, 0x3FFF)),
            ((0xBBFF,), (0, 0xBFFF)),
            ((0x0001,), (0, ONE)),
            ((0x8003,), (0, 0xBE00)),
            ((0x03FF,), (0, 0x3FFE)),
            ((0,), (0, ONE)),
            ((0x8000,), (0, 0xBC00)),
            ((INF,), (0, ONE)),
            ((MINUS_INF,), (0, 0xBC00)),
        ])

    def test_no_numbers(self):
        for op in (13, 14):
            for quiet in QUIETS:
                self.assert_ways(op, (quiet,), (0, NAN))
            for signalling in SIGNALLINGS:
                self.assert_ways(op, (signalling,), NO)
            self.assert_ways(op, (ONE, 0x7C01, 0x7C01), (0, 0 if op == 13 else ONE))


class PowersOfTwo(LaneTests):
    def test_exact(self):
        self.assert_table(15, [
            ((ONE, THREE), (0, 0x4800)),
            ((0xC200, ONE), (0, 0xC600)),
            ((THREE, 0), (0, THREE)),
            ((THREE, 0x8000), (0, THREE)),
            ((ONE, 0xCE00), (0, 0x0001)),
            ((0x0001, 0x4E00), (0, ONE)),
            ((0x0001, 0x50E0), (0, 0x7800)),
        ])

    def test_the_greatest_whole_number_no_more_than_b(self):
        self.assert_table(15, [
            ((ONE, 0x4100), (0, 0x4400)),
            ((ONE, 0x41FF), (0, 0x4400)),
            ((ONE, 0x3BFF), (0, ONE)),
            ((ONE, 0x0001), (0, ONE)),
            ((ONE, 0x8001), (0, 0x3800)),
            ((ONE, 0xB800), (0, 0x3800)),
            ((ONE, 0xBC00), (0, 0x3800)),
            ((ONE, 0xBC01), (0, 0x3400)),
        ])

    def test_rounded(self):
        self.assert_table(15, [
            ((THREE, 0xCE40), [(24, 2), (24, 1), (24, 2), (24, 1)]),
            ((0xC200, 0xCE40), [(24, 0x8002), (24, 0x8002), (24, 0x8001), (24, 0x8001)]),
            ((ONE, 0xFBFF), [(24, 0), (24, 0), (24, 1), (24, 0)]),
            ((0xFBFF, 0xFBFF), [(24, 0x8000), (24, 0x8001), (24, 0x8000), (24, 0x8000)]),
            ((0x07FF, 0xBC00), [(24, 0x0400), (24, 0x03FF), (24, 0x0400), (24, 0x03FF)]),
            ((ONE, 0x4C00), [(20, INF), (20, 0x7BFF), (20, INF), (20, 0x7BFF)]),
            ((0x0001, 0x7BFF), [(20, INF), (20, 0x7BFF), (20, INF), (20, 0x7BFF)]),
            ((0x8001, 0x7BFF), [(20, MINUS_INF), (20, MINUS_INF), (20, 0xFBFF), (20, 0xFBFF)]),
        ])

    def test_zeros_and_infinities(self):
        self.assert_table(15, [
            ((ONE, MINUS_INF), (0, 0)),
            ((0xBC00, MINUS_INF), (0, 0x8000)),
            ((0x8000, MINUS_INF), (0, 0x8000)),
            ((INF, MINUS_INF), NO),
            ((MINUS_INF, MINUS_INF), NO),
            ((ONE, INF), (0, INF)),
            ((0x8001, INF), (0, MINUS_INF)),
            ((MINUS_INF, INF), (0, MINUS_INF)),
            ((0, INF), NO),
            ((0x8000, INF), NO),
            ((0, 0x7BFF), (0, 0)),
            ((0x8000, 0xFBFF), (0, 0x8000)),
            ((INF, 0xFBFF), (0, INF)),
            ((MINUS_INF, ONE), (0, MINUS_INF)),
        ])

    def test_no_numbers(self):
        for other in (ONE, 0, INF, MINUS_INF):
            for quiet in QUIETS:
                self.assert_ways(15, (quiet, other), (0, NAN))
                self.assert_ways(15, (other, quiet), (0, NAN))
            for signalling in SIGNALLINGS:
                self.assert_ways(15, (signalling, other), NO)
                self.assert_ways(15, (other, signalling), NO)
        self.assert_ways(15, (ONE, ONE, 0x7C01), (0, TWO))


class WholeParts(LaneTests):
    def test_whole_parts(self):
        self.assert_table(16, [
            ((0x4100,), [(16, 0x4000), (16, 0x4000), (16, 0x4200), (16, 0x4000)]),
            ((0x4300,), [(16, 0x4400), (16, 0x4200), (16, 0x4400), (16, 0x4200)]),
            ((0xC100,), [(16, 0xC000), (16, 0xC200), (16, 0xC000), (16, 0xC000)]),
            ((0x3800,), [(16, 0), (16, 0), (16, ONE), (16, 0)]),
            ((0x3801,), [(16, ONE), (16, 0), (16, ONE), (16, 0)]),
            ((0x0001,), [(16, 0), (16, 0), (16, ONE), (16, 0)]),
            ((0x8001,), [(16, 0x8000), (16, 0xBC00), (16, 0x8000), (16, 0x8000)]),
            ((0xB400,), [(16, 0x8000), (16, 0xBC00), (16, 0x8000), (16, 0x8000)]),
            ((0x67FF,), (0, 0x67FF)),
            ((0x63FF,), [(16, 0x6400), (16, 0x63FE), (16, 0x6400), (16, 0x63FE)]),
        ])

    def test_what_is_whole_stays(self):
        for half in (0, 0x8000, ONE, 0xC200, 0x6401, 0x7BFF, 0xFBFF, INF, MINUS_INF):
            self.assert_ways(16, (half,), (0, half))

    def test_less_whole_parts(self):
        self.assert_table(17, [
            ((0x4100,), [(0, 0x3800), (0, 0x3800), (0, 0xB800), (0, 0x3800)]),
            ((0xC080,), [(0, 0xB400), (0, 0x3A00), (0, 0xB400), (0, 0xB400)]),
            ((0x3800,), [(0, 0x3800), (0, 0x3800), (0, 0xB800), (0, 0x3800)]),
            ((0x3801,), [(0, 0xB7FE), (0, 0x3801), (0, 0xB7FE), (0, 0x3801)]),
        ])

    def test_the_rest_rounded_in_the_direction(self):
        self.assert_table(17, [
            ((0x0001,), [(0, 0x0001), (0, 0x0001), (16, 0xBBFF), (0, 0x0001)]),
            ((0x8001,), [(0, 0x8001), (16, 0x3BFF), (0, 0x8001), (0, 0x8001)]),
        ])

    def test_a_rest_of_zero_has_no_sign(self):
        for half in (0, 0x8000, ONE, 0xC200, 0x7BFF, 0xFBFF, INF, MINUS_INF):
            self.assert_ways(17, (half,), (0, 0))

    def test_no_numbers(self):
        for op in (16, 17):
            for quiet in QUIETS:
                self.assert_ways(op, (quiet,), (0, NAN))
            for signalling in SIGNALLINGS:
                self.assert_ways(op, (signalling,), NO)
            self.assert_ways(op, (ONE, 0x7C01, 0x7C01), (0, ONE if op == 16 else 0))
