"""Point 5: a glyph's metrics."""

import unittest

from tests import fontmaker as fm

NO_BOX = [0, 0, 0, 0]


def metrics_of(file, *numbers):
    return fm.run(fm.load(file), *[fm.metrics(number) for number in numbers])[1:]


class WhichGlyph(unittest.TestCase):
    def test_numbers_that_are_no_glyph(self):
        for form in (0, 1):
            file = fm.file_of(fm.tables(form=form))
            given = metrics_of(file, -1, 0, 3, 4, 5, 65535, 65536, -4, 2147483647, -2147483648)
            self.assertEqual([len(part) for part in given], [1, 7, 7, 1, 1, 1, 1, 1, 1, 1])
            self.assertEqual([part for part in given if len(part) == 1], [[-8]] * 8)

    def test_a_font_of_one_glyph(self):
        file = fm.file_of(fm.tables([[]], 1, widths=fm.words(600, 20)))
        self.assertEqual(metrics_of(file, -1, 0, 1), [[-8], [1000, 600, 20] + NO_BOX, [-8]])

    def test_a_refusal_leaves_the_font(self):
        given = metrics_of(fm.font(), 4, 0, -1, 0)
        self.assertEqual(given, [[-8], [1000, 500, 501, -3, -4, 500, 700]] * 2)


class Units(unittest.TestCase):
    def test_units(self):
        for units in (16, 255, 256, 1000, 2048, 16384):
            self.assertEqual(metrics_of(fm.file_of(fm.tables(units=units)), 1), [[units, 502, 503] + NO_BOX])


class Widths(unittest.TestCase):
    def check(self, count, widths, expected):
        file = fm.file_of(fm.tables([[]] * 4, count, widths=widths))
        given = metrics_of(file, 0, 1, 2, 3)
        self.assertEqual([tuple(part[1:3]) for part in given], expected)

    def test_a_metric_for_each(self):
        self.check(4, fm.words(10, 1, 20, 2, 30, 3, 40, 4), [(10, 1), (20, 2), (30, 3), (40, 4)])

    def test_the_last_one_for_all_others(self):
        self.check(3, fm.words(10, 1, 20, 2, 30, 3, 4), [(10, 1), (20, 2), (30, 3), (30, 4)])
        self.check(2, fm.words(10, 1, 20, 2, 3, 4), [(10, 1), (20, 2), (20, 3), (20, 4)])
        self.check(1, fm.words(10, 1, 2, 3, 4), [(10, 1), (10, 2), (10, 3), (10, 4)])

    def test_bearings_have_a_sign_and_widths_have_none(self):
        self.check(2, fm.words(0x8000, 0x8000, 0xFFFF, 0xFFFF, 0x8001, 0x7FFF),
                   [(32768, -32768), (65535, -1), (65535, -32767), (65535, 32767)])
        self.check(2, fm.words(0x7FFF, 0x0100, 0, 0xFF00, 0, 0x00FF),
                   [(32767, 256), (0, -256), (0, 0), (0, 255)])

    def test_bytes_behind_them_are_not_looked_at(self):
        self.check(2, fm.words(10, 1, 20, 2, 3, 4, 99, 98), [(10, 1), (20, 2), (20, 3), (20, 4)])


class Boxes(unittest.TestCase):
    def boxes(self, datas, form):
        file = fm.file_of(fm.tables(datas, 1, form))
        return [part[3:] for part in metrics_of(file, *range(len(datas)))]

    def test_boxes_have_a_sign(self):
        box = (-32768, -1, 32767, 256)
        for form in (0, 1):
            self.assertEqual(self.boxes([fm.glyph_data(10, box)], form), [list(box)])
        self.assertEqual(self.boxes([fm.glyph_data(10, (0x8001, 0xFFFF, 0x7FFF, 0))], 0), [[-32767, -1, 32767, 0]])

    def test_data_of_few_bytes_and_of_many(self):
        for size in range(0, 24):
            box = [-1, -2, 3, 4]
            expected = [box, box if size >= 10 else NO_BOX, box]
            around = fm.glyph_data(10, box)
            middle = fm.glyph_data(size, box)
            self.assertEqual(self.boxes([around, middle, around], 1), expected, size)
            if size % 2 == 0:
                self.assertEqual(self.boxes([around, middle, around], 0), expected, size)

    def test_the_last_glyph_of_too_few_bytes_at_glyfs_end(self):
        for size in (0, 1, 2, 8, 9, 10):
            box = [5, 6, 7, 8]
            given = self.boxes([fm.glyph_data(10, box), fm.glyph_data(size, box)], 1)
            self.assertEqual(given[1], box if size == 10 else NO_BOX)

    def test_each_glyph_has_its_own(self):
        boxes = [[k, -k, 10 * k, -10 * k] for k in range(1, 30)]
        for form in (0, 1):
            self.assertEqual(self.boxes([fm.glyph_data(10 + 2 * k, box) for k, box in enumerate(boxes)], form), boxes)

    def test_the_first_place_need_not_be_0(self):
        parts = fm.tables([fm.glyph_data(10, (1, 2, 3, 4))], 1)
        parts["glyf"] = [0xFF] * 6 + parts["glyf"]
        parts["loca"] = fm.loca([6, 16])
        self.assertEqual(metrics_of(fm.file_of(parts), 0)[0][3:], [1, 2, 3, 4])

    def test_whatever_count_of_contours(self):
        for count in (0, 1, -1, -2, 32767, -32768):
            data = fm.words(count, 1, -2, 3, -4)
            self.assertEqual(self.boxes([data], 0), [[1, -2, 3, -4]])


if __name__ == "__main__":
    unittest.main()
