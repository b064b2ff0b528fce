"""Point 8: glyphs that are composed of parts; as far as outline answers by it."""

import unittest

from tests import fontmaker as fm

REFUSED = [-1]
ONE = 16384
HALF = 8192
STILL = 16 | 32
AGAIN = 8


def points(*places):
    return [(x, y, 1) for x, y in places]


def moved(places, *part, **told):
    """Where a part's points come to: a font of the part and a glyph of it alone."""
    given = fm.outlines_of([fm.simple([points(*places)]), fm.composed(fm.part(0, *part, **told))], 1)[0]
    assert given[:2] == [1 + 3 * len(places), len(places)], given
    return [tuple(given[at:at + 2]) for at in range(2, len(given), 3)]


def many(count, flags=1):
    """A glyph of so many points at 0, 0."""
    row = [flags | STILL | AGAIN, 255] * (count // 256) + [flags | STILL] * (count % 256)
    return fm.told([count - 1], row, [], [])


class Offsets(unittest.TestCase):
    def test_of_16_bits(self):
        for right, up in ((0, 0), (1, 2), (-1, -2), (300, -300), (32767, -32768), (-32768, 32767)):
            self.assertEqual(moved([(5, 6), (-7, 8)], right, up), [(5 + right, 6 + up), (-7 + right, 8 + up)])

    def test_of_8_bits(self):
        for right, up in ((0, 0), (1, 2), (-1, -2), (127, -128), (-128, 127)):
            self.assertEqual(moved([(5, 6), (-7, 8)], right, up, wide=False),
                             [(5 + right, 6 + up), (-7 + right, 8 + up)])

    def test_they_are_not_scaled(self):
        self.assertEqual(moved([(10, 20)], 100, -50, (HALF,)), [(105, -40)])
        self.assertEqual(moved([(10, 20)], 100, -50, (HALF,), wide=False), [(105, -40)])


class Factors(unittest.TestCase):
    PLACES = [(100, 10), (-40, 36), (0, 0), (8, -200)]

    def check(self, factors, a, b, c, d):
        for wide in (True, False):
            expected = [(a * x + c * y + 3, b * x + d * y - 4) for x, y in self.PLACES]
            self.assertEqual(moved(self.PLACES, 3, -4, factors, wide=wide), expected, factors)

    def test_none(self):
        self.check((), 1, 0, 0, 1)

    def test_one(self):
        self.check((ONE,), 1, 0, 0, 1)
        self.check((-ONE,), -1, 0, 0, -1)
        self.check((-2 * ONE,), -2, 0, 0, -2)
        self.check((0,), 0, 0, 0, 0)

    def test_two(self):
        self.check((ONE, -ONE), 1, 0, 0, -1)
        self.check((-2 * ONE, ONE), -2, 0, 0, 1)
        self.check((0, ONE), 0, 0, 0, 1)
        self.assertEqual(moved([(16000, -16000)], 0, 0, (ONE, HALF)), [(16000, -8000)])
        self.assertEqual(moved([(-16000, 16000)], 0, 0, (HALF, ONE)), [(-8000, 16000)])

    def test_four(self):
        self.check((ONE, 0, 0, ONE), 1, 0, 0, 1)
        self.check((0, ONE, -ONE, 0), 0, 1, -1, 0)
        self.check((0, -ONE, ONE, 0), 0, -1, 1, 0)
        self.check((ONE, -2 * ONE, 0, ONE), 1, -2, 0, 1)
        self.check((ONE, 0, -2 * ONE, ONE), 1, 0, -2, 1)

    def test_halves_of_all_kinds(self):
        self.assertEqual(moved([(100, 10)], 0, 0, (HALF,)), [(50, 5)])
        self.assertEqual(moved([(100, 10)], 0, 0, (HALF, -HALF)), [(50, -5)])
        self.assertEqual(moved([(100, 10)], 0, 0, (HALF, ONE, -ONE, HALF)), [(40, 105)])

    def test_the_greatest_and_the_least(self):
        self.assertEqual(moved([(16384, -16384)], 0, 0, (32767,)), [(32767, -32767)])
        self.assertEqual(moved([(16384, -16384)], 0, 0, (-32768,)), [(-32768, 32768)])
        self.assertEqual(moved([(16384, 16384)], 0, 0, (32767, 32767, 32767, -32768)), [(65534, -1)])

    def test_the_first_of_the_flags_counts(self):
        rest = fm.words(HALF, ONE, -ONE, 2 * HALF)
        for flags, factors in ((8 | 64 | 128, (HALF,)), (8 | 64, (HALF,)), (8 | 128, (HALF,)), (64 | 128, (HALF, ONE))):
            data = fm.composed(fm.part(0, 7, 9, flags=3 | flags)) + rest
            given = fm.outlines_of([fm.simple([points((100, 10))]), data], 1)[0]
            self.assertEqual(tuple(given[2:4]), moved([(100, 10)], 7, 9, factors)[0], flags)
            short = data[:len(data) - len(rest) + 2 * len(factors)]
            self.assertEqual(fm.outlines_of([fm.simple([points((100, 10))]), short], 1), [given], flags)
            self.assertEqual(fm.outlines_of([fm.simple([points((100, 10))]), short[:-1]], 1), [REFUSED], flags)


class ToTheNearest(unittest.TestCase):
    def check(self, factor, pairs):
        self.assertEqual(moved([(x, 0) for x, answer in pairs], 0, 0, (factor,)), [(answer, 0) for x, answer in pairs])
        self.assertEqual(moved([(0, y) for y, answer in pairs], 0, 0, (factor,)), [(0, answer) for y, answer in pairs])

    def test_a_half_goes_up(self):
        self.check(HALF, [(1, 1), (3, 2), (5, 3), (-1, 0), (-3, -1), (-5, -2), (0, 0), (2, 1), (-2, -1)])
        self.check(-HALF, [(1, 0), (3, -1), (5, -2), (-1, 1), (-3, 2), (-5, 3), (0, 0), (2, -1), (-2, 1)])

    def test_quarters(self):
        self.check(HALF // 2, [(1, 0), (2, 1), (3, 1), (4, 1), (5, 1), (6, 2), (-1, 0), (-2, 0), (-3, -1), (-4, -1),
                               (-5, -1), (-6, -1), (-7, -2)])

    def test_just_below_and_above_a_half(self):
        self.check(1, [(8191, 0), (8192, 1), (8193, 1), (-8191, 0), (-8192, 0), (-8193, -1)])
        self.check(1, [(16384, 1), (24575, 1), (24576, 2), (32767, 2)])
        self.check(1, [(-16384, -1), (-24576, -1), (-24577, -2), (-32768, -2)])

    def test_both_summands_are_rounded_together(self):
        # A half and a half are 1, not 2; 3 eighths and 3 eighths are 1, not 0.
        self.assertEqual(moved([(1, 1)], 0, 0, (HALF, HALF, HALF, HALF)), [(1, 1)])
        self.assertEqual(moved([(3, 3)], 0, 0, (2048, 2048, 2048, 2048)), [(1, 1)])
        self.assertEqual(moved([(-1, -1)], 0, 0, (HALF, HALF, HALF, HALF)), [(-1, -1)])

    def test_ahead_of_the_offsets(self):
        self.assertEqual(moved([(-1, 1)], -1, 1, (HALF,)), [(-1, 2)])

    def test_each_level_rounds_by_itself(self):
        datas = [fm.simple([points((1, -1))]), fm.composed(fm.part(0, 0, 0, (HALF,))),
                 fm.composed(fm.part(1, 0, 0, (HALF,)))]
        given = fm.outlines_of(datas, 0, 1, 2)
        self.assertEqual([part[2:] for part in given], [[1, -1, 1], [1, 0, 1], [1, 0, 1]])


class TheFlags(unittest.TestCase):
    def answer(self, flags):
        data = fm.composed(fm.part(0, 1, 1, flags=flags)) + [0] * 8
        return fm.outlines_of([fm.simple([points((3, 4))]), data], 1)[0]

    def test_2_must_be_there(self):
        self.assertEqual(self.answer(3), [4, 1, 4, 5, 1])
        self.assertEqual(self.answer(1), REFUSED)
        self.assertEqual(self.answer(0), REFUSED)
        self.assertEqual(self.answer(0xFFFF - 2 - 2048 - 32), REFUSED)

    def test_2048_must_not(self):
        self.assertEqual(self.answer(3 | 2048), REFUSED)
        self.assertEqual(self.answer(1 | 2048), REFUSED)

    def test_the_others_say_nothing(self):
        for flag in (4, 16, 256, 512, 1024, 4096, 8192, 16384, 32768):
            self.assertEqual(self.answer(3 | flag), [4, 1, 4, 5, 1], flag)

    def test_of_the_second_part_too(self):
        one = fm.simple([points((3, 4))])
        for flags, answer in ((3, [8, 1, 3, 4, 1, 1, 3, 4, 1]), (1, REFUSED), (3 | 2048, REFUSED)):
            data = fm.composed(fm.part(0), fm.part(0, flags=flags))
            self.assertEqual(fm.outlines_of([one, data], 1), [answer])


class SeveralParts(unittest.TestCase):
    ONE = [points((1, 2), (3, 4)), [(5, 6, 0)]]
    TWO = [[(7, 8, 0), (9, 10, 1), (11, 12, 0)]]

    def test_their_contours_stand_in_order(self):
        datas = [fm.simple(self.ONE), fm.simple(self.TWO), fm.composed(fm.part(0), fm.part(1)),
                 fm.composed(fm.part(1), fm.part(0), fm.part(1)), []]
        given = fm.outlines_of(datas, 2, 3)
        self.assertEqual(given[0], fm.outline_answer(self.ONE + self.TWO))
        self.assertEqual(given[1], fm.outline_answer(self.TWO + self.ONE + self.TWO))

    def test_each_is_moved_by_its_own(self):
        data = fm.composed(fm.part(0, 10, 20), fm.part(0, -1, -2, (2 * HALF,), wide=False), fm.part(0, 0, 0, (-ONE, ONE)),
                           fm.part(0, 5, 5, (0, ONE, -ONE, 0)))
        given = fm.outlines_of([fm.simple([[(3, 4, 0)]]), data], 1)[0]
        self.assertEqual(given, fm.outline_answer([[(13, 24, 0)], [(2, 2, 0)], [(-3, 4, 0)], [(1, 8, 0)]]))

    def test_on_the_curve_or_not_stays(self):
        contour = [(1, 1, 0), (2, 2, 1), (3, 3, 0), (4, 4, 0)]
        given = fm.outlines_of([fm.simple([contour]), fm.composed(fm.part(0, 0, 0, (-ONE,)))], 1)[0]
        self.assertEqual(given, fm.outline_answer([[(-x, -y, on) for x, y, on in contour]]))

    def test_parts_of_parts(self):
        datas = [fm.simple([[(1, 2, 1)]]), fm.composed(fm.part(0, 10, 0), fm.part(0, 0, 10)),
                 fm.composed(fm.part(1, 100, 100, (-ONE,)), fm.part(0), fm.part(1))]
        places = [(89, 98), (99, 88), (1, 2), (11, 2), (1, 12)]
        self.assertEqual(fm.outlines_of(datas, 2), [fm.outline_answer([points(place) for place in places])])

    def test_parts_without_contours(self):
        datas = [[], fm.words(0, 0, 0, 0, 0), fm.composed(fm.part(0), fm.part(1)),
                 fm.composed(fm.part(2), fm.part(4), fm.part(0)), fm.simple([points((1, 2))])]
        self.assertEqual(fm.outlines_of(datas, 2, 3), [[0], [4, 1, 1, 2, 1]])

    def test_many_parts(self):
        data = fm.composed(*[fm.part(0, k, -k) for k in range(500)])
        given = fm.outlines_of([fm.simple([points((0, 0))]), data], 1)[0]
        self.assertEqual(given, fm.outline_answer([points((k, -k)) for k in range(500)]))


class WhichGlyph(unittest.TestCase):
    def test_a_part_that_is_no_glyph(self):
        one = fm.simple([points((1, 2))])
        for number, answer in ((0, [4, 1, 1, 2, 1]), (2, [0]), (3, REFUSED), (4, REFUSED), (256, REFUSED),
                               (32768, REFUSED), (65535, REFUSED)):
            self.assertEqual(fm.outlines_of([one, fm.composed(fm.part(number)), []], 1), [answer], number)

    def test_one_of_several_is_none(self):
        one = fm.simple([points((1, 2))])
        for parts in ((0, 9), (9, 0), (0, 9, 0)):
            data = fm.composed(*[fm.part(number) for number in parts])
            self.assertEqual(fm.outlines_of([one, data], 1), [REFUSED])

    def test_its_number_has_16_bits(self):
        datas = [[]] * 300
        datas[299] = fm.simple([points((1, 2))])
        datas[1] = fm.composed(fm.part(299))
        self.assertEqual(fm.outlines_of(datas, 1), [[4, 1, 1, 2, 1]])

    def test_a_part_that_is_not_well_told(self):
        bad = fm.simple([points((1, 2))])[:-1]
        datas = [bad, fm.composed(fm.part(0)), fm.composed(fm.part(3), fm.part(1)), fm.simple([points((1, 2))])]
        self.assertEqual(fm.outlines_of(datas, 1, 2, 3), [REFUSED, REFUSED, [4, 1, 1, 2, 1]])
        for count in (-2, -32768):
            datas = [fm.words(count, 0, 0, 0, 0), fm.composed(fm.part(0))]
            self.assertEqual(fm.outlines_of(datas, 1), [REFUSED])
        self.assertEqual(fm.outlines_of([[0] * 9, fm.composed(fm.part(0))], 1), [REFUSED])


class WhereTheDataEnds(unittest.TestCase):
    def test_one_byte_short_in_each_piece(self):
        one = fm.simple([points((1, 2))])
        for factors in ((), (ONE,), (ONE, ONE), (ONE, 0, 0, ONE)):
            for wide in (True, False):
                whole = fm.composed(fm.part(0, 3, 4, factors, wide))
                self.assertEqual(len(whole), 10 + 4 + (4 if wide else 2) + 2 * len(factors))
                self.assertEqual(fm.outlines_of([one, whole], 1), [[4, 1, 4, 6, 1]])
                for size in range(1, len(whole)):
                    self.assertEqual(fm.outlines_of([one, whole[:size]], 1), [REFUSED], size)

    def test_one_byte_short_in_the_second_part(self):
        one = fm.simple([points((1, 2))])
        whole = fm.composed(fm.part(0), fm.part(0, 1, 1, (ONE,), False))
        self.assertEqual(fm.outlines_of([one, whole], 1), [fm.outline_answer([points((1, 2)), points((2, 3))])])
        for size in range(10, len(whole)):
            self.assertEqual(fm.outlines_of([one, whole[:size]], 1), [REFUSED], size)

    def test_another_part_is_said_to_follow_but_does_not(self):
        one = fm.simple([points((1, 2))])
        self.assertEqual(fm.outlines_of([one, fm.composed(fm.part(0, more=32))], 1), [REFUSED])
        self.assertEqual(fm.outlines_of([one, fm.composed(fm.part(0), fm.part(0, more=32))], 1), [REFUSED])

    def test_bytes_behind_the_last_part(self):
        one = fm.simple([points((1, 2))])
        for behind in ([0], [255], [255] * 40, fm.part(9)):
            self.assertEqual(fm.outlines_of([one, fm.composed(fm.part(0)) + behind], 1), [[4, 1, 1, 2, 1]])
            self.assertEqual(fm.outlines_of([one, fm.composed(fm.part(0, more=256)) + behind], 1), [[4, 1, 1, 2, 1]])


class Depth(unittest.TestCase):
    def chain(self, leaf, links):
        """Glyph 0 is a leaf, each next one has the one before as its part."""
        return [leaf] + [fm.composed(fm.part(k, 1, 0)) for k in range(links)]

    def test_eight_deep_and_nine_deep(self):
        given = fm.outlines_of(self.chain(fm.simple([points((0, 0))]), 10), *range(11))
        self.assertEqual(given[:8], [[4, 1, k, 0, 1] for k in range(8)])
        self.assertEqual(given[8:], [REFUSED] * 3)

    def test_leaves_without_contours_count_too(self):
        for leaf in ([], fm.words(0, 0, 0, 0, 0)):
            given = fm.outlines_of(self.chain(leaf, 9), *range(10))
            self.assertEqual(given, [[0]] * 8 + [REFUSED] * 2)

    def test_the_deepest_of_the_parts_counts(self):
        datas = self.chain(fm.simple([points((0, 0))]), 7)
        for parts in ((0, 6), (6, 0), (0, 1, 2, 3, 4, 5, 6), (6, 5, 4, 3, 2, 1, 0), (6, 6)):
            given = fm.outlines_of(datas + [fm.composed(*[fm.part(number) for number in parts])], 8)[0]
            self.assertEqual(given, fm.outline_answer([points((number, 0)) for number in parts]))
        for parts in ((0, 7), (7, 0), (0, 1, 2, 3, 4, 5, 6, 7), (7, 6, 5, 4, 3, 2, 1, 0)):
            given = fm.outlines_of(datas + [fm.composed(*[fm.part(number) for number in parts])], 8)[0]
            self.assertEqual(given, REFUSED, parts)

    def test_the_same_part_on_several_levels(self):
        # Glyph 6 is seven deep and 7 eight; they have all those before in them.
        for leaf in (fm.simple([points((0, 0))]), [], fm.words(0, 0, 0, 0, 0)):
            datas = self.chain(leaf, 7)
            for part in range(8):
                for first, second, good in ((part, 6, part < 7), (6, part, part < 7), (part, 7, False), (7, part, False)):
                    given = fm.outlines_of(datas + [fm.composed(fm.part(first), fm.part(second))], 8)[0]
                    self.assertEqual(given != REFUSED, good, (first, second))

    def test_a_glyph_that_is_its_own_part(self):
        one = fm.simple([points((1, 2))])
        self.assertEqual(fm.outlines_of([fm.composed(fm.part(0))], 0), [REFUSED])
        self.assertEqual(fm.outlines_of([one, fm.composed(fm.part(0), fm.part(1))], 1, 0), [REFUSED, [4, 1, 1, 2, 1]])
        self.assertEqual(fm.outlines_of([one, fm.composed(fm.part(1), fm.part(0))], 1, 0), [REFUSED, [4, 1, 1, 2, 1]])

    def test_a_glyph_that_is_its_parts_part(self):
        one = fm.simple([points((1, 2))])
        datas = [one, fm.composed(fm.part(0), fm.part(2)), fm.composed(fm.part(0), fm.part(1)), fm.composed(fm.part(2))]
        self.assertEqual(fm.outlines_of(datas, 1, 2, 3, 0), [REFUSED] * 3 + [[4, 1, 1, 2, 1]])

    def test_many_parts_on_each_of_eight_levels(self):
        # 60 parts without points on each of seven levels: walked one by one, they would never end.
        datas = [[]] + [fm.composed(*[fm.part(k)] * 60) for k in range(8)]
        self.assertEqual(fm.outlines_of(datas, 7, 8), [[0], REFUSED])

    def test_many_own_parts(self):
        datas = [fm.composed(*[fm.part(0)] * 300), fm.composed(*[fm.part(2)] * 300), fm.composed(*[fm.part(1)] * 300)]
        self.assertEqual(fm.outlines_of(datas, 0, 1, 2), [REFUSED] * 3)


class HowManyPoints(unittest.TestCase):
    def check(self, counts, parts, good):
        datas = [many(count) for count in counts] + [fm.composed(*[fm.part(number) for number in parts])]
        given = fm.outlines_of(datas, len(counts))[0]
        if good:
            self.assertEqual(given, fm.outline_answer([[(0, 0, 1)] * counts[number] for number in parts]))
        else:
            self.assertEqual(given, REFUSED, (counts, parts))

    def test_4096_and_4097_in_all(self):
        self.check([4096], [0], True)
        self.check([2048], [0, 0], True)
        self.check([2048, 1], [0, 0, 1], False)
        self.check([2048, 1], [1, 0, 0], False)
        self.check([4095, 1], [0, 1], True)
        self.check([4095, 1], [1, 0, 1], False)
        self.check([4096, 1], [0, 1], False)
        self.check([4096, 4096], [0, 1], False)
        self.check([64], [0] * 64, True)
        self.check([64], [0] * 65, False)

    def test_over_several_levels(self):
        datas = [many(512)]
        for k in range(4):
            datas.append(fm.composed(fm.part(k), fm.part(k)))
        given = fm.outlines_of(datas, 3, 4)
        self.assertEqual(given, [fm.outline_answer([[(0, 0, 1)] * 512] * 8), REFUSED])

    def test_a_part_of_too_many(self):
        self.assertEqual(fm.outlines_of([many(4097), fm.composed(fm.part(0))], 1), [REFUSED])


class TheRange(unittest.TestCase):
    """Points at -2^24 and 2^24 - 1 and one beyond (point 9)."""

    def test_of_the_whole(self):
        # 512 * 32767 is 2^24 - 512; 512 * -32768 is -2^24.
        most = 2 ** 24 - 1
        least = -2 ** 24
        start = fm.told([511], [1 | 32 | 8, 255] * 2, fm.words(*[32767] * 512), [])
        low = fm.told([511], [1 | 32 | 8, 255] * 2, fm.words(*[-32768] * 512), [])
        up = fm.told([511], [1 | 16 | 8, 255] * 2, [], fm.words(*[32767] * 512))
        down = fm.told([511], [1 | 16 | 8, 255] * 2, [], fm.words(*[-32768] * 512))
        for data, offsets, last in ((start, (511, 0), [most, 0, 1]), (start, (512, 0), None), (low, (0, 0), [least, 0, 1]),
                                    (low, (-1, 0), None), (up, (0, 511), [0, most, 1]), (up, (0, 512), None),
                                    (down, (0, 0), [0, least, 1]), (down, (0, -1), None)):
            given = fm.outlines_of([data, fm.composed(fm.part(0, *offsets))], 0, 1)
            self.assertEqual(given[0][:2], [1 + 3 * 512, 512])
            if last is None:
                self.assertEqual(given[1], REFUSED)
            else:
                self.assertEqual(given[1][-3:], last)

    def test_of_a_whole_that_is_doubled(self):
        half = fm.told([256], [1 | 32 | 8, 255, 1 | 32], fm.words(*[32767] * 256 + [256]), [])
        for factor, right, last in ((-2 * ONE, 0, -2 ** 24), (-2 * ONE, -1, None), (32767, 0, 2 ** 24 - 512)):
            given = fm.outlines_of([half, fm.composed(fm.part(0, right, 0, (factor,)))], 0, 1)
            self.assertEqual(given[0][-3:], [2 ** 23, 0, 1])
            self.assertEqual(given[1] if last is None else given[1][-3:], REFUSED if last is None else [last, 0, 1])

    def test_of_a_part_by_itself(self):
        # The part is one beyond; what it comes to in the whole is within.
        for axis in (0, 1):
            other = 32 if axis == 0 else 16
            for far, last, good in ((32767, 511, True), (32767, 512, False), (-32768, 0, True), (-32768, -1, False)):
                told = fm.words(*[far] * 512 + [last])
                part = fm.told([512], [1 | other | 8, 255] * 2 + [1 | other], told if axis == 0 else [],
                               told if axis == 1 else [])
                for factors in ((), (HALF,), (0,), (1, 1)):
                    way = -1000 if far > 0 else 1000
                    given = fm.outlines_of([part, fm.composed(fm.part(0, way, way, factors))], 1)[0]
                    self.assertEqual(given != REFUSED, good, (axis, far, last, factors))

    def test_of_a_composed_part_by_itself(self):
        # Glyph 1 is one beyond, out of a part that is within; glyph 2 would bring it back.
        start = fm.told([511], [1 | 32 | 8, 255] * 2, fm.words(*[32767] * 512), [])
        for right, good in ((511, True), (512, False)):
            datas = [start, fm.composed(fm.part(0, right, 0)), fm.composed(fm.part(1, -1000, 0)),
                     fm.composed(fm.part(1, 0, 0, (0,)))]
            given = fm.outlines_of(datas, 1, 2, 3)
            self.assertEqual([part != REFUSED for part in given], [good] * 3)


if __name__ == "__main__":
    unittest.main()
