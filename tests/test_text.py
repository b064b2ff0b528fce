"""Points 11 and 12: text. Whole pictures worked out by hand, and the refusals in their order."""

import unittest

from tests import fontmaker as fm

LEAST = -2147483648
MOST = 2147483647

A = fm.FIRST_CHARACTER
B = A + 1
C = A + 2
D = A + 3
NONE = 0x20

SQUARE = fm.simple([fm.rectangle(0, 0, 1, 1)])
WIDE = fm.simple([fm.rectangle(0, 0, 2, 1)])
TALL_TURNED = fm.simple([fm.turned_about(fm.rectangle(0, 0, 1, 2))])


def written(datas, advances, characters, w, h, x0=0, y0=1, units=16, size=16):
    return fm.run(fm.load(fm.shapes(datas, units, advances)), fm.text(characters, size, w, h, x0, y0))[1]


class WhereGlyphsStand(unittest.TestCase):
    def test_no_characters(self):
        self.assertEqual(written([SQUARE], [5], [], 3, 2), [0] + [0] * 6)

    def test_one_character(self):
        self.assertEqual(written([SQUARE], [5], [A], 3, 1), [5, 16, 0, 0])
        self.assertEqual(written([SQUARE, WIDE], [5, 7], [B], 3, 1), [7, 16, 16, 0])

    def test_each_next_as_much_further_as_the_one_before_says(self):
        self.assertEqual(written([SQUARE], [2], [A, A, A], 6, 1), [6, 16, 0, 16, 0, 16, 0])
        self.assertEqual(written([SQUARE, WIDE], [1, 3], [A, B, A], 6, 1), [5, 16, 16, 16, 0, 16, 0])
        self.assertEqual(written([SQUARE, WIDE], [1, 3], [B, A, A], 6, 1), [5, 16, 16, 0, 16, 16, 0])

    def test_the_last_ones_advance_counts_for_the_answer_alone(self):
        self.assertEqual(written([SQUARE], [1000], [A], 2, 1), [1000, 16, 0])
        self.assertEqual(written([SQUARE, WIDE], [1, 65535], [A, B], 3, 1), [65536, 16, 16, 16])

    def test_glyphs_without_contours_move_the_next(self):
        self.assertEqual(written([SQUARE, []], [1, 2], [A, B, A, B, B, A], 10, 1),
                         [9, 16, 0, 0, 16, 0, 0, 0, 0, 16, 0])

    def test_x0_and_y0(self):
        self.assertEqual(written([SQUARE], [2], [A, A], 4, 2, 1, 2), [4, 0, 0, 0, 0, 0, 16, 0, 16])
        self.assertEqual(written([SQUARE], [2], [A, A], 4, 2, -2, 1), [4, 16, 0, 0, 0, 0, 0, 0, 0])
        self.assertEqual(written([SQUARE], [2], [A, A, A], 4, 1, -3, 1), [6, 0, 16, 0, 0])
        self.assertEqual(written([SQUARE], [2], [A, A], 4, 1, 0, 0), [4, 0, 0, 0, 0])

    def test_positions_are_exact(self):
        # A unit is a third of a pixel: the glyphs, 3 units wide, begin at 0, 4/3, 8/3 and 4 pixels. In eighths of a
        # pixel they cover 1 to 7; 11, 13, 15, 17 (from 10.67 to 18.67); 23, 25, 27, 29 (21.33 to 29.33); 33 to 39.
        data = fm.simple([fm.rectangle(0, 0, 3, 3)])
        self.assertEqual(written([data], [4], [A, A, A, A], 6, 1, units=48), [16] + [16, 12, 8, 12, 16, 0])

    def test_positions_are_not_rounded_one_by_one(self):
        # Ten glyphs a tenth of a pixel apart: the last stands nine tenths on.
        data = fm.simple([fm.rectangle(0, 0, 1, 10)])
        given = written([data, []], [1, 1], [B] * 9 + [A], 2, 1, units=160, size=16)
        self.assertEqual(given, [10, 0, 0])
        given = written([data, []], [1, 1], [B] * 8 + [A], 2, 1, units=160, size=16)
        self.assertEqual(given, [9, 4, 0])

    def test_a_sum_past_16_bits(self):
        given = written([SQUARE, []], [1, 65535], [B] * 255 + [A], 1, 1)
        self.assertEqual(given, [255 * 65535 + 1, 0])
        self.assertEqual(written([SQUARE], [65535], [A] * 256, 1, 1), [256 * 65535, 16])

    def test_far_positions_brought_back_by_x0(self):
        self.assertEqual(written([SQUARE, []], [1, 1024], [B, B, B, B, A], 3, 1, -4096), [4097, 16, 0, 0])
        self.assertEqual(written([SQUARE, []], [1, 1024], [B, B, B, B, A], 3, 1, -4095), [4097, 0, 16, 0])


class Overlapping(unittest.TestCase):
    def test_a_sample_is_covered_if_one_of_them_covers_it(self):
        self.assertEqual(written([WIDE], [1], [A, A, A], 5, 1), [3, 16, 16, 16, 16, 0])
        self.assertEqual(written([SQUARE], [0], [A] * 5, 2, 1), [0, 16, 0])

    def test_other_directions_do_not_cancel(self):
        square = fm.rectangle(0, 0, 2, 2)
        datas = [fm.simple([square]), fm.simple([fm.turned_about(square)])]
        for characters in ([A, B], [B, A], [A, B, A]):
            self.assertEqual(written(datas, [0, 0], characters, 2, 2, 0, 2), [0] + [16] * 4)
        self.assertEqual(written(datas, [1, 1], [A, B], 3, 2, 0, 2), [2] + [16] * 6)

    def test_in_one_glyph_they_do(self):
        square = fm.rectangle(0, 0, 2, 2)
        both = fm.simple([square, fm.turned_about(square)])
        self.assertEqual(written([both], [0], [A, A], 2, 2, 0, 2), [0] * 5)

    def test_a_ring_and_what_stands_in_it(self):
        ring = fm.simple([fm.rectangle(0, 0, 3, 3), fm.turned_about(fm.rectangle(1, 1, 2, 2))])
        dot = fm.simple([fm.rectangle(1, 1, 2, 2)])
        row = [16, 16, 16]
        self.assertEqual(written([ring, dot], [0, 0], [A], 3, 3, 0, 3)[1:], row + [16, 0, 16] + row)
        self.assertEqual(written([ring, dot], [0, 0], [A, B], 3, 3, 0, 3)[1:], row * 3)
        self.assertEqual(written([ring, dot], [1, 0], [A, A], 4, 3, 0, 3)[1:], [16] * 12)
        # The second, two pixels on, has its hole where the first is not.
        self.assertEqual(written([ring, dot], [2, 0], [A, A], 5, 3, 0, 3)[1:], [16] * 5 + [16, 0, 16, 0, 16] + [16] * 5)

    def test_parts_of_a_pixel(self):
        # In eighths: from 0 to 3, and again from 2 to 5: the samples 1, 3; of each row 2, not 3.
        data = fm.simple([fm.rectangle(0, 0, 3, 8)])
        self.assertEqual(written([data], [2], [A, A], 1, 1, units=128), [4, 8])
        self.assertEqual(written([data], [4], [A, A], 1, 1, units=128), [8, 8])
        self.assertEqual(written([data], [1], [A] * 6, 1, 1, units=128), [6, 16])

    def test_the_same_glyph_again_and_again(self):
        comb = fm.simple([fm.rectangle(4 * k, 0, 4 * k + 1, 8) for k in range(20)])
        # Teeth of an eighth, from 0, 4, 8 on: no sample; moved on by 1 they cover 1, 5, 9 ..; by 2 none; by 3 3, 7 ..
        self.assertEqual(written([comb], [1], [A], 10, 1, units=128), [1] + [0] * 10)
        self.assertEqual(written([comb], [1], [A, A], 10, 1, units=128), [2] + [8] * 10)
        self.assertEqual(written([comb], [1], [A, A, A], 10, 1, units=128), [3] + [8] * 10)
        self.assertEqual(written([comb], [1], [A, A, A, A], 10, 1, units=128), [4] + [16] * 10)


class Characters(unittest.TestCase):
    def test_those_that_have_no_glyph_are_glyph_0(self):
        datas = [WIDE, SQUARE]
        for character in (NONE, 0, 0x10041, 0xFFFF, 0x10000, 4294967295):
            self.assertEqual(written(datas, [3, 1], [B, character, B], 6, 1), [5, 16, 16, 16, 0, 16, 0], character)

    def test_by_cmap(self):
        stretches = [(0x61, 0x62, 2 - 0x61, 0), (0x3B1, 0x3B1, 1 - 0x3B1, 0), fm.LAST_STRETCH]
        parts = fm.tables([[], SQUARE, WIDE, TALL_TURNED], 1, 1, 16, fm.cmap(fm.character_table(stretches)),
                          fm.words(3, 0, 0, 0, 0))
        given = fm.run(fm.load(fm.file_of(parts)), fm.text([0x61, 0x62, 0x3B1, 0x41], 16, 10, 2, 0, 2))[1]
        self.assertEqual(given, [12, 0, 0, 0, 16, 0, 0, 0, 0, 0, 0, 16, 16, 0, 16, 0, 0, 16, 0, 0, 0])

    def test_256_characters(self):
        given = written([SQUARE, []], [1, 1], [A, B] * 128, 256, 1)
        self.assertEqual(given, [256] + [16, 0] * 128)
        given = written([SQUARE, []], [1, 1], [B] * 255 + [A], 256, 1)
        self.assertEqual(given, [256] + [0] * 255 + [16])

    def test_257_characters(self):
        # More than the interface hands in; the words say -8.
        row = fm.load(fm.shapes([SQUARE], 16, [1])) + fm.text([A] * 257, 16, 1, 1, 0, 1) + fm.text([A], 16, 1, 1, 0, 1)
        self.assertEqual(fm.answers(row), [1, 1, 1, -8, 2, 1, 16])

    def test_256_glyphs_of_256(self):
        datas = [fm.simple([fm.rectangle(0, k % 4, 1, k % 4 + 1)]) for k in range(256)]
        given = written(datas, [1] * 256, list(range(A, A + 256)), 256, 4, 0, 4)
        rows = [given[1 + 256 * j:257 + 256 * j] for j in range(4)]
        self.assertEqual(rows, [[16 if k % 4 == 3 - j else 0 for k in range(256)] for j in range(4)])


class AsDraw(unittest.TestCase):
    def test_one_character_is_drawn_as_its_glyph(self):
        curve = fm.simple([[(0, 0, 0), (700, 0, 0), (700, 900, 1), (-100, 800, 0)], fm.rectangle(100, 100, 300, 200)])
        datas = [curve, fm.composed(fm.part(0, 50, 60, (9000, -3000, 2000, 12000)))]
        for number in (0, 1):
            for size, x0, y0 in ((2, 0, 1), (12, 3, 14), (40, -9, 25), (256, -50, 90)):
                given = fm.run(fm.load(fm.shapes(datas, 1000, [611, 622])), fm.draw(number, size, 20, 30, x0, y0),
                               fm.text([A + number], size, 20, 30, x0, y0))
                self.assertEqual(given[1], given[2])
                self.assertTrue(sum(given[1][1:]) > 0)


class TheRanges(unittest.TestCase):
    FILE = fm.shapes([fm.simple([fm.rectangle(-8000, -8000, 8000, 8000)])], 256, [9])

    def check(self, call, good):
        given = fm.run(fm.load(self.FILE), call, fm.text([A], 1, 1, 1, 0, 0))
        self.assertEqual(given[1], [18] + [16] * (call[2] * call[3]) if good else [-8], call)
        self.assertEqual(given[2], [9, 16])

    def test_size_w_and_h(self):
        for number, good in ((LEAST, False), (-1, False), (0, False), (1, True), (256, True), (257, False), (MOST, False)):
            self.check(fm.text([A, A], number, 2, 3, 0, 0), good)
            self.check(fm.text([A, A], 256, number, 3, 0, 0), good)
            self.check(fm.text([A, A], 256, 3, number, 0, 0), good)

    def test_x0_and_y0(self):
        for number, good in ((LEAST, False), (-4097, False), (-4096, True), (0, True), (4096, True), (4097, False),
                             (MOST, False)):
            self.check(fm.text([A, A], 256, 2, 2, number, 0), good)
            self.check(fm.text([A, A], 256, 2, 2, 0, number), good)

    def test_without_characters_too(self):
        given = fm.run(fm.load(self.FILE), fm.text([], 0, 1, 1, 0, 0), fm.text([], 1, 257, 1, 0, 0),
                       fm.text([], 1, 1, 0, 0, 0), fm.text([], 1, 1, 1, 4097, 0), fm.text([], 1, 1, 1, 0, -4097),
                       fm.text([], 1, 1, 1, 0, 0))
        self.assertEqual(given[1:], [[-8]] * 5 + [[0, 0]])


class TheOrder(unittest.TestCase):
    BAD = SQUARE[:-1]

    def test_without_a_font_before_all_else(self):
        for call in (fm.text([A], 16, 1, 1, 0, 0), fm.text([], 16, 1, 1, 0, 0), fm.text([A], 0, 0, 0, 9999, 9999)):
            self.assertEqual(fm.run(call), [[-9]])

    def test_8_before_1(self):
        for call in (fm.text([A], 0, 1, 1, 0, 0), fm.text([A], 16, 257, 1, 0, 0), fm.text([A], 16, 1, 0, 0, 0),
                     fm.text([A], 16, 1, 1, 4097, 0), fm.text([A], 16, 1, 1, 0, -4097)):
            self.assertEqual(fm.run(fm.load(fm.shapes([self.BAD])), call, fm.text([A], 16, 1, 1, 0, 0))[1:], [[-8], [-1]])

    def test_one_glyph_that_is_not_well_told(self):
        for bad in (self.BAD, [0] * 9, fm.words(-2, 0, 0, 0, 0), fm.composed(fm.part(1)), fm.composed(fm.part(77))):
            for characters in ([B], [A, B], [B, A], [A, B, A], [A] * 255 + [B]):
                self.assertEqual(written([SQUARE, bad], [1, 1], characters, 2, 1), [-1])
            self.assertEqual(written([SQUARE, bad], [1, 1], [A], 2, 1), [1, 16, 0])
            self.assertEqual(written([SQUARE, bad], [1, 1], [], 2, 1), [0, 0, 0])

    def test_glyph_0_stands_for_characters_without_one(self):
        self.assertEqual(written([self.BAD, SQUARE], [1, 1], [B, NONE], 2, 1), [-1])
        self.assertEqual(written([self.BAD, SQUARE], [1, 1], [B, B], 2, 1), [2, 16, 16])

    def test_also_where_nothing_of_it_would_be_seen(self):
        self.assertEqual(written([SQUARE, self.BAD], [30000, 1], [A, B], 1, 1), [-1])
        self.assertEqual(written([SQUARE, self.BAD], [1, 1], [A, B], 1, 1, 0, -4096), [-1])

    def test_a_refusal_leaves_the_font(self):
        given = fm.run(fm.load(fm.shapes([SQUARE, self.BAD], 16, [1, 1])), fm.text([B], 16, 1, 1, 0, 1),
                       fm.text([A], 16, 1, 1, 0, 1), fm.text([A], 0, 1, 1, 0, 1), fm.text([A], 16, 1, 1, 0, 1))
        self.assertEqual(given[1:], [[-1], [1, 16], [-8], [1, 16]])


if __name__ == "__main__":
    unittest.main()
