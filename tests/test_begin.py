"""Point 1: begin, and -9 without a font."""

import unittest

from tests import fontmaker as fm

LOWEST = -2147483648
HIGHEST = 2147483647

CALLS_THAT_NEED_A_FONT = [
    fm.glyph(0),
    fm.glyph(0x41),
    fm.glyph(4294967295),
    fm.metrics(0),
    fm.metrics(-1),
    fm.metrics(LOWEST),
    fm.metrics(HIGHEST),
    fm.outline(0, 1000),
    fm.outline(0, -1),
    fm.outline(LOWEST, LOWEST),
    fm.draw(0, 16, 2, 2, 0, 0),
    fm.draw(-1, 0, 0, 257, 4097, -4097),
    fm.draw(HIGHEST, LOWEST, HIGHEST, LOWEST, HIGHEST, LOWEST),
    fm.text([0x41, 0x42], 16, 2, 2, 0, 0),
    fm.text([], 16, 2, 2, 0, 0),
    fm.text([4294967295] * 256, 0, -1, 257, HIGHEST, LOWEST),
]


class Begin(unittest.TestCase):
    def test_begin_answers_0(self):
        self.assertEqual(fm.run(fm.begin()), [[0]])
        self.assertEqual(fm.run(fm.begin(), fm.begin()), [[0], [0]])

    def test_begin_forgets_the_font(self):
        given = fm.run(fm.load(fm.font()), fm.metrics(0), fm.begin(), fm.metrics(0), fm.glyph(0x41))
        self.assertEqual(given[0], [4])
        self.assertEqual(len(given[1]), 7)
        self.assertEqual(given[2:], [[0], [-9], [-9]])

    def test_a_font_may_be_loaded_behind_begin(self):
        given = fm.run(fm.begin(), fm.load(fm.font()), fm.glyph(0x42))
        self.assertEqual(given, [[0], [4], [1]])


class WithoutAFont(unittest.TestCase):
    def check(self, *before):
        for call in CALLS_THAT_NEED_A_FONT:
            given = fm.run(*before, call)
            self.assertEqual(given[-1], [-9], call[:7])

    def test_at_the_beginning(self):
        self.check()

    def test_behind_begin(self):
        self.check(fm.begin())

    def test_behind_a_font_that_begin_forgot(self):
        self.check(fm.load(fm.font()), fm.begin())

    def test_behind_a_load_that_was_refused(self):
        self.check(fm.load([]))
        self.check(fm.load(fm.font_without("cmap")))

    def test_behind_a_good_load_and_a_refused_one(self):
        self.check(fm.load(fm.font()), fm.load(fm.font_without("cmap")))

    def test_all_of_them_in_one_list(self):
        given = fm.run(*CALLS_THAT_NEED_A_FONT)
        self.assertEqual(given, [[-9]] * len(CALLS_THAT_NEED_A_FONT))


if __name__ == "__main__":
    unittest.main()
