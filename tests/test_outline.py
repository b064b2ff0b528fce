"""Point 9: outline, the form of what it answers, and its refusals in their order."""

import unittest

from tests import fontmaker as fm

LEAST = -2147483648
MOST = 2147483647

GOOD = fm.simple([[(1, -2, 1), (3, 4, 0)], [(-5, 6, 1)]])
GOOD_ANSWER = [11, 2, 1, -2, 1, 3, 4, 0, 1, -5, 6, 1]
BAD = GOOD[:-1]


def asked(datas, *pairs):
    return fm.run(fm.load(fm.shapes(datas)), *[fm.outline(number, most) for number, most in pairs])[1:]


class TheForm(unittest.TestCase):
    def test_contours_and_points(self):
        self.assertEqual(asked([GOOD], (0, 11)), [GOOD_ANSWER])

    def test_no_contours(self):
        self.assertEqual(asked([[], fm.words(0, 0, 0, 0, 0)], (0, 0), (1, 0)), [[0], [0]])

    def test_one_point(self):
        self.assertEqual(asked([fm.simple([[(7, 8, 0)]])], (0, 4)), [[4, 1, 7, 8, 0]])

    def test_middles_are_not_put_in(self):
        contour = [(0, 0, 0), (10, 0, 0), (10, 10, 0), (0, 10, 0)]
        self.assertEqual(asked([fm.simple([contour])], (0, 13)), [fm.outline_answer([contour])])

    def test_the_units_and_the_box_say_nothing(self):
        data = fm.put(GOOD, 2, fm.words(100, 200, -300, -400))
        for units in (16, 1000, 16384):
            given = fm.run(fm.load(fm.shapes([data], units)), fm.outline(0, 11))
            self.assertEqual(given[1], GOOD_ANSWER)

    def test_the_longest(self):
        contours = [[((k * 37) % 200, -((k * 91) % 200), k % 2)] for k in range(2500)]
        points = [contour[0] for contour in contours]
        flags = [2 | 4 | 16 | point[2] for point in points]
        xs = [point[0] for point in points]
        steps = [-point[1] for point in points]
        data = fm.told(list(range(2500)), flags, xs, steps)
        given = asked([data], (0, 10000))[0]
        self.assertEqual(given[:2], [10000, 1])
        x = y = 0
        for k, point in enumerate(points):
            x += point[0]
            y += point[1]
            self.assertEqual(given[1 + 4 * k:5 + 4 * k], [1, x, y, point[2]])

    def test_the_count_ahead_of_the_answer(self):
        row = fm.load(fm.shapes([GOOD])) + fm.outline(0, 11) + fm.outline(0, 10) + fm.begin()
        self.assertEqual(fm.answers(row), [1, 1, 12] + GOOD_ANSWER + [1, -7, 1, 0])


class Most(unittest.TestCase):
    def test_just_enough_and_one_too_few(self):
        given = asked([GOOD], (0, 11), (0, 10), (0, 12), (0, 1), (0, 0), (0, MOST))
        self.assertEqual(given, [GOOD_ANSWER, [-7], GOOD_ANSWER, [-7], [-7], GOOD_ANSWER])

    def test_of_a_composed_glyph(self):
        datas = [GOOD, fm.composed(fm.part(0), fm.part(0))]
        self.assertEqual(asked(datas, (1, 22), (1, 21)), [[22] + GOOD_ANSWER[1:] * 2, [-7]])

    def test_the_count_itself_does_not_count(self):
        self.assertEqual(asked([fm.simple([[(1, 2, 1)]])], (0, 3), (0, 4), (0, 5)), [[-7], [4, 1, 1, 2, 1], [4, 1, 1, 2, 1]])

    def test_below_0(self):
        self.assertEqual(asked([GOOD, []], (0, -1), (0, LEAST), (1, -1), (1, 0)), [[-8], [-8], [-8], [0]])


class WhichGlyph(unittest.TestCase):
    def test_numbers_that_are_no_glyph(self):
        for number in (-1, 2, 3, 256, 65535, 65536, LEAST, MOST):
            self.assertEqual(asked([GOOD, []], (number, 100), (0, 11)), [[-8], GOOD_ANSWER], number)

    def test_each_glyph_has_its_own(self):
        datas = [fm.simple([[(k, -k, k % 2)]]) for k in range(20)]
        self.assertEqual(asked(datas, *[(k, 4) for k in range(20)]), [[4, 1, k, -k, k % 2] for k in range(20)])


class TheOrder(unittest.TestCase):
    def test_without_a_font_before_all_else(self):
        for number, most in ((0, 100), (0, -1), (-1, 100), (-1, -1), (LEAST, LEAST)):
            self.assertEqual(fm.run(fm.outline(number, most)), [[-9]])
            self.assertEqual(fm.run(fm.load(fm.shapes([BAD])), fm.begin(), fm.outline(number, most))[2], [-9])

    def test_8_before_1(self):
        self.assertEqual(asked([BAD], (0, -1), (1, 100), (-1, 100), (-1, -1), (0, 100)), [[-8]] * 4 + [[-1]])

    def test_8_before_7(self):
        self.assertEqual(asked([GOOD], (0, -1), (1, 0), (0, 0)), [[-8], [-8], [-7]])

    def test_1_before_7(self):
        composed = fm.composed(fm.part(0), fm.part(9))
        for data in (BAD, composed, [1, 2, 3], fm.words(-2, 0, 0, 0, 0)):
            self.assertEqual(asked([GOOD, data], (1, 0), (1, 3), (1, 100)), [[-1]] * 3)

    def test_a_refusal_leaves_the_font(self):
        given = asked([GOOD, BAD], (1, 100), (0, 11), (0, 3), (0, 11), (2, 1), (0, 11))
        self.assertEqual(given, [[-1], GOOD_ANSWER, [-7], GOOD_ANSWER, [-8], GOOD_ANSWER])

    def test_a_glyph_that_is_not_well_told_can_be_loaded(self):
        given = fm.run(fm.load(fm.shapes([BAD])), fm.metrics(0), fm.glyph(fm.FIRST_CHARACTER))
        self.assertEqual(given, [[1], [1000, 0, 0, 0, 0, 0, 0], [0]])


class AnyBytes(unittest.TestCase):
    def test_each_byte_of_the_glyphs_changed(self):
        datas = [GOOD, fm.composed(fm.part(0, 5, 6, (8192,)), fm.part(0, wide=False), fm.part(2)),
                 fm.told([1, 3], [1 | 2 | 4, 32 | 8, 1, 16 | 2 | 4], [1] + fm.words(2, 3) + [4], [5, 6])]
        whole = fm.shapes(datas)
        parts = fm.tables(datas, 1, 1)
        start = len(whole) - sum(len(parts[name]) for name in ("glyf", "head", "hhea", "loca", "maxp")) - 4 * len(datas)
        self.assertEqual(whole[start:start + len(parts["glyf"])], parts["glyf"])
        for at in range(start, start + len(parts["glyf"])):
            for byte in (0, 1, 2, 8, 32, 127, 128, 255, (whole[at] + 1) % 256, (whole[at] - 1) % 256):
                file = fm.put(whole, at, [byte])
                given = fm.run(fm.load(file), *[fm.outline(k, 100000) for k in range(3)])[1:]
                for answer in given:
                    self.check_form(answer)

    def check_form(self, answer):
        if answer == [-1]:
            return
        self.assertEqual(answer[0], len(answer) - 1)
        at = 1
        while at < len(answer):
            self.assertTrue(answer[at] >= 1)
            self.assertTrue(set(answer[at + 3:at + 1 + 3 * answer[at]:3]) <= {0, 1})
            at += 1 + 3 * answer[at]
        self.assertEqual(at, len(answer))


if __name__ == "__main__":
    unittest.main()
