"""Point 4: the glyph of a character."""

import unittest

from tests import fontmaker as fm

GLYPHS = 700


def font_of(stretches, listed=(), length=None, behind=(), glyphs=GLYPHS):
    table = fm.character_table(stretches, listed, length)
    return fm.file_of(fm.tables([[]] * glyphs, 1, wanted_cmap=fm.cmap(table + list(behind))))


class Stretches(unittest.TestCase):
    STRETCHES = [(10, 20, 100 - 10, 0), (30, 30, 200 - 30, 0), (31, 40, 300 - 31, 0), (0xFFFF, 0xFFFF, 1, 0)]

    def check(self, pairs):
        file = font_of(self.STRETCHES)
        self.assertEqual(fm.glyphs_of(file, [pair[0] for pair in pairs]), [pair[1] for pair in pairs])

    def test_below_the_first(self):
        self.check([(0, 0), (1, 0), (9, 0)])

    def test_within(self):
        self.check([(10, 100), (11, 101), (19, 109), (20, 110), (30, 200), (31, 300), (40, 309)])

    def test_between(self):
        self.check([(21, 0), (25, 0), (29, 0), (41, 0), (1000, 0), (0xFFFE, 0)])

    def test_behind_all_but_the_last(self):
        self.check([(41, 0), (0xFFFE, 0), (0xFFFF, 0)])

    def test_the_last_character(self):
        for added, answer in ((1, 0), (2, 1), (8, 7), (GLYPHS, GLYPHS - 1), (GLYPHS + 1, 0)):
            file = font_of([(0xFFFF, 0xFFFF, added, 0)])
            self.assertEqual(fm.glyphs_of(file, [0xFFFF, 0xFFFE]), [answer, 0])

    def test_above_ffffh(self):
        file = font_of([(0, 0xFFFF, 0, 0)])
        self.assertEqual(fm.glyphs_of(file, [0, 1, 5]), [0, 1, 5])
        for character in (0x10000, 0x10001, 0x10005, 0x1F600, 0x20005, 0x80000005, 0xFFFF0005, 0xFFFFFFFF):
            self.assertEqual(fm.glyphs_of(file, [character]), [0], character)

    def test_one_stretch(self):
        file = font_of([(50, 0xFFFF, -50, 0)])
        self.assertEqual(fm.glyphs_of(file, [0, 49, 50, 51, 50 + GLYPHS - 1, 50 + GLYPHS]), [0, 0, 0, 1, GLYPHS - 1, 0])

    def test_the_first_of_those_that_share_characters(self):
        file = font_of([(10, 20, 90, 0), (5, 30, 200, 0), (0, 0xFFFF, 300, 0)])
        pairs = [(4, 0), (5, 0), (9, 0), (10, 100), (20, 110), (21, 221), (30, 230), (31, 331), (100, 400)]
        self.assertEqual(fm.glyphs_of(file, [pair[0] for pair in pairs]), [pair[1] for pair in pairs])

    def test_many_stretches(self):
        for count in range(1, 40):
            stretches = [(10 * k + 3, 10 * k + 7, k + 1 - (10 * k + 3), 0) for k in range(count)]
            file = font_of(stretches + [fm.LAST_STRETCH])
            for k in (0, count // 2, count - 1):
                found = fm.glyphs_of(file, [10 * k + step for step in (2, 3, 4, 7, 8)])
                self.assertEqual(found, [0, k + 1, k + 2, k + 5, 0], (count, k))


class OffsetNone(unittest.TestCase):
    def test_modulo_65536(self):
        for character, added, answer in ((0, 0, 0), (0, 1, 1), (5, -5, 0), (5, -4, 1), (5, 0xFFFF, 4), (0x8000, 0x8000, 0),
                                         (0x8000, 0x8001, 1), (0xFFF0, 0x0012, 2), (0xFFF0, 0x010F, 0xFF)):
            file = font_of([(character, 0xFFFF, added, 0)])
            self.assertEqual(fm.glyphs_of(file, [character]), [answer], (character, added))

    def test_no_glyph_of_the_font(self):
        for glyphs in (1, 2, 5, GLYPHS):
            file = font_of([(0, 0xFFFF, 0, 0)], glyphs=glyphs)
            found = fm.glyphs_of(file, [0, glyphs - 1, glyphs, glyphs + 1, 0x8000, 0xFFFF])
            self.assertEqual(found, [0, glyphs - 1, 0, 0, 0, 0])
            file = font_of([(0, 0xFFFF, glyphs, 0)], glyphs=glyphs)
            self.assertEqual(fm.glyphs_of(file, [0, 1, 65536 - glyphs, 65535]), [0, 0, 0, glyphs - 1])


class OtherOffsets(unittest.TestCase):
    def test_a_list_behind_the_offsets(self):
        # The last offset's own place is two bytes ahead of the list, the first one's four.
        file = font_of([(10, 14, 0, 4), fm.LAST_STRETCH], [5, 9, 0, 699, 700])
        self.assertEqual(fm.glyphs_of(file, [9, 10, 11, 12, 13, 14, 15]), [0, 5, 9, 0, 699, 0, 0])

    def test_from_the_offsets_own_place_on(self):
        listed = [11, 12, 13, 14]
        stretches = [(10, 11, 0, 6), (20, 21, 0, 8), (0xFFFF, 0xFFFF, 0, 2)]
        file = font_of(stretches, listed)
        self.assertEqual(fm.glyphs_of(file, [10, 11, 20, 21, 0xFFFF]), [11, 12, 13, 14, 11])
        stretches = [(10, 11, 0, 10), (20, 21, 0, 4), (0xFFFF, 0xFFFF, 0, 8)]
        file = font_of(stretches, listed)
        self.assertEqual(fm.glyphs_of(file, [10, 11, 20, 21, 0xFFFF]), [13, 14, 11, 12, 14])

    def test_the_list_may_be_the_offsets_themselves(self):
        file = font_of([(10, 13, 0, 2), (20, 20, 0, 300), fm.LAST_STRETCH])
        self.assertEqual(fm.glyphs_of(file, [10, 11, 12]), [300, 0, 0])

    def test_odd_offsets(self):
        file = font_of([(10, 12, 0, 5), fm.LAST_STRETCH], [0x1101, 0x2002, 0x3300])
        self.assertEqual(fm.glyphs_of(file, [10, 11, 12]), [0x0120, 0x0233, 0])

    def test_what_is_added(self):
        for listed, added, answer in ((5, 3, 8), (5, -3, 2), (5, -5, 0), (5, -6, 0), (0, 3, 0), (0, -3, 0), (0, 0xFFFF, 0),
                                      (0xFFFF, 2, 1), (0xFFFF, 1, 0), (0x8000, 0x8000, 0), (0x8001, 0x8002, 3),
                                      (1, 698, 699), (1, 699, 0), (700, -1, 699), (700, 0, 0)):
            file = font_of([(10, 10, added, 4), fm.LAST_STRETCH], [listed])
            self.assertEqual(fm.glyphs_of(file, [10]), [answer], (listed, added))

    def test_below_the_beginning_nothing_is_listed(self):
        file = font_of([(10, 10, 0, 6), fm.LAST_STRETCH], [7, 8, 9])
        self.assertEqual(fm.glyphs_of(file, [9, 10, 11]), [0, 8, 0])

    def test_places_past_the_table_of_characters(self):
        file = font_of([(10, 20, 1, 4), fm.LAST_STRETCH], [5, 6])
        self.assertEqual(fm.glyphs_of(file, [10, 11, 12, 13, 20]), [6, 7, 0, 0, 0])

    def test_nothing_is_added_past_the_table(self):
        for added in (0, 2, 50, -1, 0x8000):
            file = font_of([(10, 20, added, 4), fm.LAST_STRETCH], [5])
            self.assertEqual(fm.glyphs_of(file, [11, 12, 20]), [0, 0, 0], added)

    def test_places_past_its_length_though_within_cmap(self):
        whole = 16 + 8 * 2 + 2 * 3
        stretches = [(10, 20, 1, 4), fm.LAST_STRETCH]
        for less, answer in ((0, [6, 7, 8, 0]), (1, [6, 7, 0, 0]), (2, [6, 7, 0, 0]), (3, [6, 0, 0, 0]),
                             (4, [6, 0, 0, 0]), (5, [0, 0, 0, 0]), (6, [0, 0, 0, 0])):
            file = font_of(stretches, [5, 6, 7], whole - less, [1] * 50)
            self.assertEqual(fm.glyphs_of(file, [10, 11, 12, 13]), answer, less)
        file = font_of(stretches, [5, 6, 7], whole + 2, fm.words(9, 9))
        self.assertEqual(fm.glyphs_of(file, [10, 11, 12, 13, 14]), [6, 7, 8, 10, 0])

    def test_the_greatest_offset(self):
        file = font_of([(10, 20, 1, 0xFFFF), (0, 0xFFFF, 1, 0xFFFF)], [5] * 40)
        self.assertEqual(fm.glyphs_of(file, [10, 20, 21, 0xFFFF]), [0, 0, 0, 0])


def plain_answer(character, stretches, listed, glyphs):
    """Point 4 told once more, over the parts that the table was made of."""
    numbers = [stretch[3] for stretch in stretches] + list(listed)
    for k, (beginning, end, added, offset) in enumerate(stretches):
        if character > end:
            continue
        if character < beginning:
            return 0
        found = character
        if offset != 0:
            at = k + offset // 2 + character - beginning
            found = numbers[at] if at < len(numbers) else 0
            if found == 0:
                return 0
        found = (found + added) & 0xFFFF
        return found if found < glyphs else 0
    return 0


class EveryCharacter(unittest.TestCase):
    def test_against_the_point_told_once_more(self):
        stretches = [(0x20, 0x7E, -0x1D, 0), (0xA0, 0xFF, 3, 10), (0x100, 0x17F, 0x8000, 4), (0x1000, 0x7FFF, 0x9000, 0),
                     (0x8001, 0x9000, 0xFFFF, 4), (0xFF00, 0xFFFF, 0, 6)]
        listed = [(k * 7919 + 13) % 900 for k in range(300)]
        file = font_of(stretches, listed)
        characters = list(range(0, 0x400)) + list(range(0x400, 0x10000, 37)) + list(range(0x7F00, 0x8200))
        characters += list(range(0xFE00, 0x10100))
        expected = [plain_answer(character, stretches, listed, GLYPHS) for character in characters]
        self.assertTrue(len(set(expected)) > 300)
        self.assertEqual(fm.glyphs_of(file, characters), expected)


if __name__ == "__main__":
    unittest.main()
