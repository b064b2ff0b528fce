"""Point 10: contours as lines and curves, and curves as eight lines; as far as draw answers by it."""

import unittest

from tests import fontmaker as fm

# A unit is an eighth of a pixel: samples have odd whole numbers.
UNITS = 128
SIZE = 16


def drawn(contours, w=4, h=4, x0=1, y0=3, units=UNITS, size=SIZE):
    given = fm.run(fm.load(fm.shapes([fm.simple(contours)], units)), fm.draw(0, size, w, h, x0, y0))[1]
    assert len(given) == 1 + w * h
    return given[1:]


def covered(contours, **told):
    return sum(drawn(contours, **told))


def places(begin, off, end):
    """The nine places of a curve of points whose numbers are multiples of 64."""
    found = []
    for k in range(9):
        place = [((8 - k) ** 2 * begin[axis] + 2 * k * (8 - k) * off[axis] + k ** 2 * end[axis]) for axis in (0, 1)]
        assert place[0] % 64 == 0 and place[1] % 64 == 0
        found.append((place[0] // 64, place[1] // 64, 1))
    return found


class FewPoints(unittest.TestCase):
    """Contours of one or two points go round nothing, wherever they are and whatever else is there."""

    SQUARE = fm.rectangle(0, 0, 8, 8)
    CONTOURS = [[(4, 4, on)] for on in (0, 1)]
    CONTOURS += [[(3, 3, one), (7, 5, two)] for one in (0, 1) for two in (0, 1)]
    CONTOURS += [[(-5, -5, one), (20, 20, two)] for one in (0, 1) for two in (0, 1)]
    CONTOURS += [[(3, 3, one), (3, 3, two)] for one in (0, 1) for two in (0, 1)]
    CONTOURS += [[(1, -9, one), (1, 40, two)] for one in (0, 1) for two in (0, 1)]
    CONTOURS += [[(2, 1, on)] * count for on in (0, 1) for count in (2, 3, 4, 7)]

    def test_by_themselves(self):
        for contour in self.CONTOURS:
            self.assertEqual(drawn([contour]), [0] * 16, contour)

    def test_beside_another_contour(self):
        plain = drawn([self.SQUARE])
        self.assertEqual(sum(plain), 16)
        for contour in self.CONTOURS:
            self.assertEqual(drawn([self.SQUARE, contour]), plain, contour)
            self.assertEqual(drawn([contour, self.SQUARE, contour]), plain, contour)


class OneCurve(unittest.TestCase):
    def test_a_hill(self):
        # From (0, 0) by (8, 16) to (16, 0): the places are 2k, k(8-k)/2; above x = 1, 3, 5, 7 the lines are at
        # 1.75, 4.75, 6.75, 7.75, so 1, 2, 3 and 4 samples are below; then the other way about.
        hill = [(0, 0, 1), (8, 16, 0), (16, 0, 1)]
        self.assertEqual(drawn([hill], 2, 1, 0, 1), [10, 10])
        self.assertEqual(drawn([fm.turned_about(hill)], 2, 1, 0, 1), [10, 10])
        for first in range(3):
            self.assertEqual(drawn([hill[first:] + hill[:first]], 2, 1, 0, 1), [10, 10])

    def test_a_hollow(self):
        # The same curve cut out of a rectangle.
        hollow = [(0, 0, 1), (8, 16, 0), (16, 0, 1), (16, 8, 1), (0, 8, 1)]
        self.assertEqual(drawn([hollow], 2, 1, 0, 1), [6, 6])

    def test_the_eight_lines_and_not_the_curve_itself(self):
        # From (0, 0) by (64, 128) to (128, 0): above x = 5 the curve is at 9.6, the first line at 8.75, so that the
        # sample at (5, 9) lies between them; the lines' ends are (16k, 4k(8-k)).
        hill = [(0, 0, 1), (64, 128, 0), (128, 0, 1)]
        heights = [4 * k * (8 - k) for k in range(9)]
        expected = [[0] * 16 for j in range(8)]
        for x in range(1, 128, 2):
            k = x // 16
            for y in range(1, 64, 2):
                # Below the line from (16k, heights[k]) to (16k + 16, heights[k + 1]), or on it where it goes up.
                line = heights[k] * 16 + (heights[k + 1] - heights[k]) * (x - 16 * k)
                if 16 * y < line or 16 * y == line and heights[k + 1] > heights[k]:
                    expected[7 - y // 8][x // 8] += 1
        self.assertEqual(drawn([hill], 16, 8, 0, 8), sum(expected, []))
        real = sum(1 for x in range(1, 128, 2) for y in range(1, 64, 2) if 64 * y < x * (128 - x))
        self.assertNotEqual(sum(sum(expected, [])), real)

    def test_as_a_contour_of_its_nine_places(self):
        for begin, off, end in (((0, 0), (64, 128), (128, 0)), ((0, 0), (0, 128), (128, 128)), ((-64, 0), (64, 192), (0, -64)),
                                ((64, 64), (-128, 0), (64, -64)), ((0, 0), (192, 64), (64, 0))):
            curve = [(*begin, 1), (*off, 0), (*end, 1)]
            lines = places(begin, off, end)
            expected = drawn([lines], 40, 40, 20, 20)
            self.assertTrue(sum(expected) > 100)
            self.assertEqual(drawn([curve], 40, 40, 20, 20), expected)
            self.assertEqual(drawn([fm.turned_about(curve)], 40, 40, 20, 20), expected)

    def test_not_more_lines_and_not_fewer(self):
        begin, off, end = (0, 0), (0, 128), (128, 128)
        eight = places(begin, off, end)
        exact = drawn([[(*begin, 1), (*off, 0), (*end, 1)]], 40, 40, 5, 30)
        self.assertEqual(exact, drawn([eight], 40, 40, 5, 30))
        self.assertNotEqual(exact, drawn([eight[::2]], 40, 40, 5, 30))
        self.assertNotEqual(exact, drawn([eight[::4]], 40, 40, 5, 30))

    def test_places_that_are_no_whole_numbers(self):
        # The first place of (0, 0) by (0, 1) to (1, 1) is 1 by 64, 15 by 64; at 16 units for 256 pixels it stands at
        # a quarter and 3 3/4 pixels, between two columns and two rows of samples.
        curve = [(0, 0, 1), (0, 1, 0), (1, 1, 1)]
        scaled = [(64 * x, 64 * y, on) for x, y, on in curve]
        lines = places((0, 0), (0, 64), (64, 64))
        expected = drawn([lines], 16, 16, 0, 16, 1024, 256)
        self.assertEqual(drawn([curve], 16, 16, 0, 16, 16, 256), expected)
        self.assertEqual(drawn([scaled], 16, 16, 0, 16, 1024, 256), expected)
        self.assertTrue(0 < sum(expected) < 16 * 256)


class Middles(unittest.TestCase):
    """Between two points off the curve the middle is on it."""

    BOX = {"w": 40, "h": 40, "x0": 15, "y0": 25}

    def check(self, contour, explicit):
        expected = drawn([explicit], **self.BOX)
        self.assertTrue(sum(expected) > 100)
        self.assertEqual(drawn([contour], **self.BOX), expected)
        for first in range(len(contour)):
            turned = contour[first:] + contour[:first]
            self.assertEqual(drawn([turned], **self.BOX), expected, first)
            self.assertEqual(drawn([fm.turned_about(turned)], **self.BOX), expected, first)

    def test_two_off_it(self):
        self.check([(0, 0, 1), (0, 100, 0), (100, 100, 0), (100, 0, 1)],
                   [(0, 0, 1), (0, 100, 0), (50, 100, 1), (100, 100, 0), (100, 0, 1)])

    def test_three_off_it(self):
        self.check([(0, 0, 1), (-60, 80, 0), (40, 160, 0), (120, 20, 0)],
                   [(0, 0, 1), (-60, 80, 0), (-10, 120, 1), (40, 160, 0), (80, 90, 1), (120, 20, 0)])

    def test_none_on_it(self):
        self.check([(0, 0, 0), (100, 0, 0), (100, 100, 0), (0, 100, 0)],
                   [(50, 0, 1), (100, 0, 0), (100, 50, 1), (100, 100, 0), (50, 100, 1), (0, 100, 0), (0, 50, 1), (0, 0, 0)])

    def test_three_points_none_on_it(self):
        self.check([(0, 0, 0), (160, 0, 0), (0, 160, 0)],
                   [(80, 0, 1), (160, 0, 0), (80, 80, 1), (0, 160, 0), (0, 80, 1), (0, 0, 0)])

    def test_over_the_last_and_the_first(self):
        self.check([(100, 0, 0), (100, 100, 1), (0, 100, 1), (0, 0, 0)],
                   [(100, 0, 0), (100, 100, 1), (0, 100, 1), (0, 0, 0), (50, 0, 1)])

    def test_the_first_off_it_and_the_last_on_it(self):
        self.check([(0, 100, 0), (100, 100, 1), (100, 0, 1), (0, 0, 1)],
                   [(0, 0, 1), (0, 100, 0), (100, 100, 1), (100, 0, 1)])

    def test_middles_that_are_no_whole_numbers(self):
        # Of odd points; the same glyph is drawn twice as large by half the units.
        odd = [(1, 0, 0), (100, 3, 0), (103, 106, 0), (-4, 101, 0)]
        explicit = []
        for k in range(4):
            point = odd[k]
            after = odd[(k + 1) % 4]
            explicit += [(2 * point[0], 2 * point[1], 0), (point[0] + after[0], point[1] + after[1], 1)]
        for size in (16, 33):
            expected = drawn([explicit], 40, 40, 5, 30, 256, size)
            self.assertTrue(sum(expected) > 100)
            self.assertEqual(drawn([odd], 40, 40, 5, 30, 128, size), expected)

    def test_each_contour_is_closed_by_itself(self):
        one = [(0, 0, 0), (60, 0, 0), (60, 60, 0), (0, 60, 0)]
        two = [(x + 80, y + 10, on) for x, y, on in one]
        together = drawn([one, two], **self.BOX)
        self.assertEqual(together, [a + b for a, b in zip(drawn([one], **self.BOX), drawn([two], **self.BOX))])
        self.assertTrue(sum(together) > 100)


class Lines(unittest.TestCase):
    def test_the_last_and_the_first_are_joined(self):
        self.assertEqual(covered([[(0, 0, 1), (16, 0, 1), (16, 16, 1)]]), 10 + 16 + 10)
        self.assertEqual(covered([[(0, 0, 1), (16, 0, 1), (16, 16, 1), (0, 0, 1)]]), 10 + 16 + 10)

    def test_points_told_twice_and_points_on_a_line(self):
        plain = drawn([fm.rectangle(0, 0, 16, 16)])
        more = [(0, 0, 1), (0, 0, 1), (7, 0, 1), (16, 0, 1), (16, 5, 1), (16, 16, 1), (16, 16, 1), (0, 16, 1), (0, 3, 1)]
        self.assertEqual(drawn([more]), plain)

    def test_a_line_there_and_back(self):
        plain = drawn([fm.rectangle(0, 0, 16, 16)])
        self.assertEqual(drawn([fm.rectangle(0, 0, 16, 16) + [(0, 0, 1), (-7, -5, 1), (0, 0, 1)]]), plain)
        self.assertEqual(drawn([[(0, 0, 1), (5, 9, 1), (0, 0, 1)] + fm.rectangle(0, 0, 16, 16)]), plain)


if __name__ == "__main__":
    unittest.main()
