"""Points 11 and 12: draw. Whole pictures worked out by hand, and the refusals in their order."""

import unittest

from tests import fontmaker as fm

LEAST = -2147483648
MOST = 2147483647

# (units, size): a unit is a pixel; or an eighth of one, so that samples have odd whole numbers.
PIXELS = (16, 16)
EIGHTHS = (128, 16)


def pictured(contours, w, h, x0, y0, scale=PIXELS):
    """The picture's rows."""
    units, size = scale
    given = fm.run(fm.load(fm.shapes([fm.simple(contours)], units, [77])), fm.draw(0, size, w, h, x0, y0))[1]
    assert given[0] == 77 and len(given) == 1 + w * h
    return [given[1 + w * j:1 + w * (j + 1)] for j in range(h)]


def one_pixel(*contours):
    """How many samples of the pixel with 0, 0 at its lower left are covered; the contours are in eighths."""
    return pictured(contours, 1, 1, 0, 1, EIGHTHS)[0][0]


def mirrored(contour):
    return [(-x, y, on) for x, y, on in contour]


class WholePixels(unittest.TestCase):
    L_SHAPE = [(0, 0, 1), (3, 0, 1), (3, 1, 1), (1, 1, 1), (1, 3, 1), (0, 3, 1)]

    def test_a_pixel(self):
        self.assertEqual(pictured([fm.rectangle(0, 0, 1, 1)], 1, 1, 0, 1), [[16]])

    def test_an_l(self):
        self.assertEqual(pictured([self.L_SHAPE], 4, 4, 0, 3), [
            [16, 0, 0, 0],
            [16, 0, 0, 0],
            [16, 16, 16, 0],
            [0, 0, 0, 0]])

    def test_y_goes_up_and_the_pixels_go_down(self):
        self.assertEqual(pictured([fm.rectangle(0, 1, 1, 2)], 2, 3, 0, 2), [[16, 0], [0, 0], [0, 0]])
        self.assertEqual(pictured([fm.rectangle(0, -1, 1, 0)], 2, 3, 0, 2), [[0, 0], [0, 0], [16, 0]])
        self.assertEqual(pictured([fm.rectangle(1, 0, 2, 1)], 2, 3, 0, 2), [[0, 0], [0, 16], [0, 0]])

    def test_turned_about_it_is_the_same(self):
        for shape in (self.L_SHAPE, fm.rectangle(1, 0, 3, 2)):
            expected = pictured([shape], 4, 4, 0, 3)
            self.assertEqual(pictured([fm.turned_about(shape)], 4, 4, 0, 3), expected)
            for first in range(len(shape)):
                self.assertEqual(pictured([shape[first:] + shape[:first]], 4, 4, 0, 3), expected)

    def test_upside_down_and_mirrored(self):
        down = [(x, -y, on) for x, y, on in self.L_SHAPE]
        self.assertEqual(pictured([down], 4, 4, 0, 0), [
            [16, 16, 16, 0],
            [16, 0, 0, 0],
            [16, 0, 0, 0],
            [0, 0, 0, 0]])
        self.assertEqual(pictured([mirrored(self.L_SHAPE)], 4, 4, 4, 3), [
            [0, 0, 0, 16],
            [0, 0, 0, 16],
            [0, 16, 16, 16],
            [0, 0, 0, 0]])

    def test_x0_and_y0(self):
        self.assertEqual(pictured([self.L_SHAPE], 3, 3, -1, 3), [[0, 0, 0], [0, 0, 0], [16, 16, 0]])
        self.assertEqual(pictured([self.L_SHAPE], 3, 3, 1, 3), [[0, 16, 0], [0, 16, 0], [0, 16, 16]])
        self.assertEqual(pictured([self.L_SHAPE], 3, 3, 0, 1), [[16, 16, 16], [0, 0, 0], [0, 0, 0]])
        self.assertEqual(pictured([self.L_SHAPE], 3, 3, 2, 5), [[0, 0, 0], [0, 0, 0], [0, 0, 16]])
        self.assertEqual(pictured([self.L_SHAPE], 3, 3, -2, 2), [[0, 0, 0], [16, 0, 0], [0, 0, 0]])
        self.assertEqual(pictured([self.L_SHAPE], 3, 3, 3, 3), [[0] * 3] * 3)
        self.assertEqual(pictured([self.L_SHAPE], 3, 3, -3, 3), [[0] * 3] * 3)
        self.assertEqual(pictured([self.L_SHAPE], 3, 3, 0, 0), [[0] * 3] * 3)
        self.assertEqual(pictured([self.L_SHAPE], 3, 3, 0, 6), [[0] * 3] * 3)

    def test_y0_below_0(self):
        low = [fm.rectangle(0, -3, 1, -1)]
        self.assertEqual(pictured(low, 1, 3, 0, 0), [[0], [16], [16]])
        self.assertEqual(pictured(low, 1, 3, 0, -1), [[16], [16], [0]])
        self.assertEqual(pictured(low, 1, 3, 0, -2), [[16], [0], [0]])
        self.assertEqual(pictured(low, 1, 3, 0, -3), [[0], [0], [0]])

    def test_the_farthest_x0_and_y0(self):
        far = [fm.rectangle(4096, 4095, 4097, 4096), fm.rectangle(-4096, -4096, -4095, -4095)]
        self.assertEqual(pictured(far, 1, 1, -4096, 4096), [[16]])
        self.assertEqual(pictured(far, 1, 1, 4096, -4095), [[16]])
        self.assertEqual(pictured(far, 2, 2, 4096, -4096), [[0, 0], [0, 0]])
        self.assertEqual(pictured(far, 1, 1, 4096, 4096), [[0]])

    def test_rows_and_columns_are_not_mixed_up(self):
        shape = [fm.rectangle(1, 0, 4, 1), fm.rectangle(5, 1, 6, 2)]
        self.assertEqual(pictured(shape, 6, 2, 0, 2), [[0, 0, 0, 0, 0, 16], [0, 16, 16, 16, 0, 0]])
        self.assertEqual(pictured(shape, 2, 6, 0, 2), [[0, 0], [0, 16], [0, 0], [0, 0], [0, 0], [0, 0]])


class PartsOfPixels(unittest.TestCase):
    def test_how_many_samples(self):
        # Samples stand at 1, 3, 5 and 7 eighths.
        for right, columns in ((0, 0), (1, 0), (2, 1), (3, 1), (4, 2), (5, 2), (6, 3), (7, 3), (8, 4), (9, 4)):
            self.assertEqual(one_pixel(fm.rectangle(0, 0, right, 8)), 4 * columns, right)
            self.assertEqual(one_pixel(fm.rectangle(0, 0, 8, right)), 4 * columns, right)
            self.assertEqual(one_pixel(fm.rectangle(0, 0, right, 4)), 2 * columns, right)

    def test_over_several_pixels(self):
        # From 3 to 13 eighths across: samples 3, 5, 7 and 9, 11. From 2 to 14 up: 3, 5, 7 and 9, 11, 13.
        self.assertEqual(pictured([fm.rectangle(3, 2, 13, 14)], 2, 2, 0, 2, EIGHTHS), [[9, 6], [9, 6]])

    def test_two_and_a_half_pixels(self):
        # 250 of 1000 units at 10 pixels for 1000.
        shape = [fm.rectangle(0, 0, 250, 250)]
        self.assertEqual(pictured(shape, 4, 3, 0, 3, (1000, 10)), [[8, 8, 4, 0], [16, 16, 8, 0], [16, 16, 8, 0]])

    def test_a_slope_whose_samples_on_the_line_are_to_its_left(self):
        # Below the line from (4, 0) to (0, 4); the four samples on it in a pixel are not covered, six are.
        shape = [[(0, 0, 1), (4, 0, 1), (0, 4, 1)]]
        expected = [[6, 0, 0, 0], [16, 6, 0, 0], [16, 16, 6, 0], [16, 16, 16, 6]]
        self.assertEqual(pictured(shape, 4, 4, 0, 4), expected)
        self.assertEqual(pictured([fm.turned_about(shape[0])], 4, 4, 0, 4), expected)

    def test_a_slope_whose_samples_on_the_line_are_to_its_right(self):
        # Below the line from (0, 0) to (4, 4); the four samples on it in a pixel are covered, six others are.
        shape = [[(0, 0, 1), (4, 0, 1), (4, 4, 1)]]
        expected = [[0, 0, 0, 10], [0, 0, 10, 16], [0, 10, 16, 16], [10, 16, 16, 16]]
        self.assertEqual(pictured(shape, 4, 4, 0, 4), expected)
        self.assertEqual(pictured([fm.turned_about(shape[0])], 4, 4, 0, 4), expected)

    def test_a_steep_and_a_flat_slope(self):
        # Left of the line from (8, 0) to (0, 32) eighths: at height y up to 8 - y / 4.
        self.assertEqual(pictured([[(0, 0, 1), (8, 0, 1), (0, 32, 1)]], 1, 4, 0, 4, EIGHTHS), [[2], [6], [10], [14]])
        # Below the line from (0, 8) to (32, 0): above x up to 8 - x / 4.
        self.assertEqual(pictured([[(0, 0, 1), (32, 0, 1), (0, 8, 1)]], 4, 1, 0, 1, EIGHTHS), [[14, 10, 6, 2]])


class SamplesOnALine(unittest.TestCase):
    def test_upright_lines(self):
        # A sample on the left side of a shape is covered, one on its right side isn't.
        for x in (1, 3, 5, 7):
            self.assertEqual(one_pixel(fm.rectangle(x, 0, x + 1, 8)), 4)
            self.assertEqual(one_pixel(fm.rectangle(x - 1, 0, x, 8)), 0)
            self.assertEqual(one_pixel(fm.rectangle(x, 0, x + 2, 8)), 4)
            self.assertEqual(one_pixel(fm.turned_about(fm.rectangle(x, 0, x + 1, 8))), 4)
            self.assertEqual(one_pixel(fm.turned_about(fm.rectangle(x - 1, 0, x, 8))), 0)

    def test_level_lines(self):
        # A sample on the lower side of a shape is covered, one on its upper side isn't.
        for y in (1, 3, 5, 7):
            self.assertEqual(one_pixel(fm.rectangle(0, y, 8, y + 1)), 4)
            self.assertEqual(one_pixel(fm.rectangle(0, y - 1, 8, y)), 0)
            self.assertEqual(one_pixel(fm.rectangle(0, y, 8, y + 2)), 4)
            self.assertEqual(one_pixel(fm.turned_about(fm.rectangle(0, y, 8, y + 1))), 4)
            self.assertEqual(one_pixel(fm.turned_about(fm.rectangle(0, y - 1, 8, y))), 0)

    def test_a_square_between_samples(self):
        # Of the nine samples in and on it, those on its left and its lower side count.
        self.assertEqual(one_pixel(fm.rectangle(1, 1, 5, 5)), 4)
        self.assertEqual(one_pixel(fm.rectangle(1, 1, 3, 3)), 1)
        self.assertEqual(one_pixel(fm.rectangle(1, 1, 1, 5)), 0)
        self.assertEqual(one_pixel(fm.rectangle(1, 1, 5, 1)), 0)

    def test_shapes_side_by_side_share_no_sample_and_leave_none(self):
        for cut in range(9):
            for shapes in ((fm.rectangle(0, 0, cut, 8), fm.rectangle(cut, 0, 8, 8)),
                           (fm.rectangle(0, 0, 8, cut), fm.rectangle(0, cut, 8, 8)),
                           ([(0, 0, 1), (8, 0, 1), (0, cut, 1)], [(8, 0, 1), (8, 8, 1), (0, 8, 1), (0, cut, 1)]),
                           ([(0, 0, 1), (cut, 0, 1), (0, 8, 1)], [(cut, 0, 1), (8, 0, 1), (8, 8, 1), (0, 8, 1)])):
                self.assertEqual(one_pixel(shapes[0]) + one_pixel(shapes[1]), 16)
                self.assertEqual(one_pixel(*shapes), 16)
                self.assertEqual(one_pixel(shapes[0], fm.turned_about(shapes[1])), 16)

    def test_slopes(self):
        # Corners 4 eighths from the middle of the pixel: 4 samples within, 8 on the lines, those to the left count.
        diamond = [(0, 4, 1), (4, 0, 1), (8, 4, 1), (4, 8, 1)]
        self.assertEqual(one_pixel(diamond), 8)
        self.assertEqual(one_pixel(fm.turned_about(diamond)), 8)
        self.assertEqual(one_pixel([(0, 4, 1), (4, 0, 1), (4, 8, 1)]), 6)
        self.assertEqual(one_pixel([(4, 0, 1), (8, 4, 1), (4, 8, 1)]), 2)

    def test_not_by_rounding(self):
        # A third of a pixel and three eighths, told by units that give neither exactly in few digits.
        for units, size, right, count in ((24, 8, 1, 4), (24, 9, 1, 4), (16384, 3, 2048, 4), (16383, 3, 2048, 8),
                                          (16384, 3, 2047, 4), (1000, 125, 3, 4), (1000, 126, 3, 8), (1000, 124, 3, 4)):
            given = pictured([fm.rectangle(0, 0, right, 16000)], 1, 1, 0, 1, (units, size))
            self.assertEqual(given, [[count]], (units, size, right))


class AtACornersHeight(unittest.TestCase):
    def test_a_diamond_with_corners_on_samples(self):
        # Of its corners (1, 3), (3, 1), (5, 3), (3, 5) only the left one is covered; and its middle.
        diamond = [(1, 3, 1), (3, 1, 1), (5, 3, 1), (3, 5, 1)]
        for first in range(4):
            turned = diamond[first:] + diamond[:first]
            self.assertEqual(one_pixel(turned), 2)
            self.assertEqual(one_pixel(fm.turned_about(turned)), 2)

    def test_corners_beside_a_sample(self):
        # Both lines at the tip end at a height of samples: together they are met there once.
        right_tip = [(0, 0, 1), (4, 3, 1), (0, 6, 1)]
        self.assertEqual(one_pixel(right_tip), 1 + 2 + 1)
        left_tip = [(8, 0, 1), (4, 3, 1), (8, 6, 1)]
        self.assertEqual(one_pixel(left_tip), 1 + 2 + 1)

    def test_a_corner_that_a_line_goes_through(self):
        # The same shape with a point more on each side, at each sample's height.
        plain = fm.rectangle(2, 0, 6, 8)
        more = [(2, 0, 1), (6, 0, 1)] + [(6, y, 1) for y in (1, 3, 5, 7)] + [(6, 8, 1), (2, 8, 1)]
        more += [(2, y, 1) for y in (7, 5, 3, 1)]
        self.assertEqual(one_pixel(plain), 8)
        self.assertEqual(one_pixel(more), 8)
        self.assertEqual(one_pixel(fm.turned_about(more)), 8)

    def test_teeth(self):
        # Tips down at height 1, 3, 5 and 7 between tips up above all samples.
        for low in (1, 3, 5, 7):
            teeth = [(0, 9, 1), (2, low, 1), (4, 9, 1), (6, low, 1), (8, 9, 1), (8, 20, 1), (0, 20, 1)]
            # At height y a tooth goes from 1 left of its tip's x on, and to 1 right of it, where y is half-way up.
            expected = sum(1 for y in (1, 3, 5, 7) for x in (1, 3, 5, 7) if y >= low and (y - low) * 2 >= 9 - low
                           and ((x % 4 == 1) or (y - low) * 2 > 9 - low))
            self.assertEqual(one_pixel(teeth), expected, low)


class RoundOtherThan0Times(unittest.TestCase):
    OUTER = fm.rectangle(0, 0, 3, 3)
    INNER = fm.rectangle(1, 1, 2, 2)
    FULL = [[16] * 3] * 3
    RING = [[16, 16, 16], [16, 0, 16], [16, 16, 16]]

    def test_in_one_another_with_the_same_direction(self):
        self.assertEqual(pictured([self.OUTER, self.INNER], 3, 3, 0, 3), self.FULL)
        both = [fm.turned_about(self.OUTER), fm.turned_about(self.INNER)]
        self.assertEqual(pictured(both, 3, 3, 0, 3), self.FULL)
        self.assertEqual(pictured([self.INNER, self.OUTER], 3, 3, 0, 3), self.FULL)

    def test_in_one_another_with_the_other_direction(self):
        self.assertEqual(pictured([self.OUTER, fm.turned_about(self.INNER)], 3, 3, 0, 3), self.RING)
        self.assertEqual(pictured([fm.turned_about(self.OUTER), self.INNER], 3, 3, 0, 3), self.RING)
        self.assertEqual(pictured([self.INNER, fm.turned_about(self.OUTER)], 3, 3, 0, 3), self.RING)

    def test_twice_round_and_once_back(self):
        self.assertEqual(pictured([self.OUTER, self.OUTER, fm.turned_about(self.INNER)], 3, 3, 0, 3), self.FULL)
        inner = [fm.turned_about(self.INNER)] * 2
        self.assertEqual(pictured([self.OUTER, self.OUTER] + inner, 3, 3, 0, 3), self.RING)
        self.assertEqual(pictured([self.OUTER] + inner, 3, 3, 0, 3), self.FULL)

    def test_there_and_back(self):
        self.assertEqual(pictured([self.OUTER, fm.turned_about(self.OUTER)], 3, 3, 0, 3), [[0] * 3] * 3)

    def test_a_contour_that_crosses_itself(self):
        # One triangle on the left and one on the right, with the lines on the right of the one, on the left of the other.
        bow = [(0, 0, 1), (4, 4, 1), (4, 0, 1), (0, 4, 1)]
        self.assertEqual(pictured([bow], 4, 4, 0, 4), [[6, 0, 0, 10], [16, 6, 10, 16], [16, 6, 10, 16], [6, 0, 0, 10]])

    def test_a_contour_that_goes_round_twice(self):
        twice = fm.rectangle(0, 0, 3, 3) + fm.rectangle(0, 0, 2, 2)
        self.assertEqual(pictured([twice], 3, 3, 0, 3), self.FULL)
        back = fm.rectangle(0, 0, 3, 3) + [(0, 0, 1), (0, 2, 1), (2, 2, 1), (2, 0, 1)]
        self.assertEqual(pictured([back], 3, 3, 0, 3), [[16, 16, 16], [0, 0, 16], [0, 0, 16]])

    def test_side_by_side_with_other_directions(self):
        shapes = [fm.rectangle(0, 0, 1, 3), fm.turned_about(fm.rectangle(2, 0, 3, 3))]
        self.assertEqual(pictured(shapes, 3, 3, 0, 3), [[16, 0, 16]] * 3)

    def test_overlapping_with_other_directions(self):
        shapes = [fm.rectangle(0, 0, 2, 2), fm.turned_about(fm.rectangle(1, 1, 3, 3))]
        self.assertEqual(pictured(shapes, 3, 3, 0, 3), [[0, 16, 16], [16, 0, 16], [16, 16, 0]])

    def test_parts_go_round_together(self):
        datas = [fm.simple([self.OUTER]), fm.simple([self.INNER]),
                 fm.composed(fm.part(0), fm.part(1)), fm.composed(fm.part(0), fm.part(1, 3, 0, (-16384, 16384)))]
        given = fm.run(fm.load(fm.shapes(datas, 16)), fm.draw(2, 16, 3, 3, 0, 3), fm.draw(3, 16, 3, 3, 0, 3))
        self.assertEqual(given[1:], [[20] + sum(self.FULL, []), [30] + sum(self.RING, [])])

    def test_what_lies_left_of_the_picture_counts(self):
        ring = [fm.rectangle(-50, 0, 50, 3), fm.turned_about(fm.rectangle(-40, 1, 40, 2))]
        self.assertEqual(pictured(ring, 3, 3, 0, 3), [[16] * 3, [0] * 3, [16] * 3])
        self.assertEqual(pictured(ring, 3, 3, 39, 3), [[16] * 3, [0] * 3, [16] * 3])
        self.assertEqual(pictured(ring, 3, 3, 41, 3), [[16] * 3, [16, 0, 0], [16] * 3])
        self.assertEqual(pictured(ring, 3, 3, 45, 3), [[16] * 3] * 3)
        self.assertEqual(pictured(ring, 3, 3, 51, 3), [[0, 16, 16]] * 3)
        self.assertEqual(pictured(ring, 3, 3, -39, 3), [[16] * 3, [0, 16, 16], [16] * 3])

    def test_slopes_that_go_far_beyond_the_picture(self):
        # The line x = y from far below to far above, and all right of it.
        shape = [[(-15000, -15000, 1), (16000, -15000, 1), (16000, 16000, 1)]]
        self.assertEqual(pictured(shape, 3, 3, 0, 3), [[0, 0, 10], [0, 10, 16], [10, 16, 16]])
        self.assertEqual(pictured(shape, 3, 3, 1, 3), [[0, 0, 0], [0, 0, 10], [0, 10, 16]])
        self.assertEqual(pictured(shape, 3, 3, 100, 3), [[0] * 3] * 3)
        self.assertEqual(pictured(shape, 3, 3, -100, 3), [[16] * 3] * 3)


class WhatIsAnswered(unittest.TestCase):
    def test_how_far_the_next_glyph_is(self):
        datas = [fm.simple([fm.rectangle(0, 0, 1, 1)])] * 3
        file = fm.shapes(datas, 16, [0, 65535, 12])
        given = fm.run(fm.load(file), *[fm.draw(k, 16, 1, 1, 0, 1) for k in range(3)])
        self.assertEqual(given[1:], [[0, 16], [65535, 16], [12, 16]])

    def test_of_glyphs_behind_the_metrics(self):
        parts = fm.tables([[]] * 3, 1, widths=fm.words(600, 1, 2, 3))
        given = fm.run(fm.load(fm.file_of(parts)), *[fm.draw(k, 9, 1, 1, 0, 1) for k in range(3)])
        self.assertEqual(given[1:], [[600, 0]] * 3)

    def test_a_glyph_without_contours(self):
        given = fm.run(fm.load(fm.shapes([[], fm.words(0, 0, 0, 0, 0)])), fm.draw(0, 9, 2, 3, 0, 0), fm.draw(1, 9, 3, 1, 0, 0))
        self.assertEqual(given[1:], [[0] * 7, [10, 0, 0, 0]])

    def test_the_bearing_says_nothing(self):
        parts = fm.tables([fm.simple([fm.rectangle(0, 0, 1, 1)])], 1, 1, 16, widths=fm.words(5, 1))
        self.assertEqual(fm.run(fm.load(fm.file_of(parts)), fm.draw(0, 16, 2, 1, 0, 1))[1], [5, 16, 0])

    def test_it_draws_the_same_again(self):
        call = fm.draw(0, 16, 3, 3, 0, 3)
        file = fm.shapes([fm.simple([WholePixels.L_SHAPE])], 16)
        given = fm.run(fm.load(file), call, fm.draw(0, 20, 9, 9, 1, 1), call, fm.load(file), call)
        self.assertEqual(given[1], given[3])
        self.assertEqual(given[1], given[5])


class TheRanges(unittest.TestCase):
    """A unit is 1 by 256 to 1 of a pixel, by the size."""

    FILE = fm.shapes([fm.simple([fm.rectangle(-8000, -8000, 8000, 8000)])], 256, [9])

    def check(self, call, good):
        given = fm.run(fm.load(self.FILE), call, fm.draw(0, 1, 1, 1, 0, 0))
        self.assertEqual(given[1], [9] + [16] * (call[3] * call[4]) if good else [-8], call)
        self.assertEqual(given[2], [9, 16])

    def test_size(self):
        for size, good in ((LEAST, False), (-1, False), (0, False), (1, True), (2, True), (255, True), (256, True),
                           (257, False), (65536, False), (MOST, False)):
            self.check(fm.draw(0, size, 2, 3, 0, 0), good)

    def test_w(self):
        for w, good in ((LEAST, False), (-1, False), (0, False), (1, True), (255, True), (256, True), (257, False),
                        (MOST, False)):
            self.check(fm.draw(0, 256, w, 2, 0, 0), good)

    def test_h(self):
        for h, good in ((LEAST, False), (-1, False), (0, False), (1, True), (255, True), (256, True), (257, False),
                        (MOST, False)):
            self.check(fm.draw(0, 256, 2, h, 0, 0), good)

    def test_x0(self):
        for x0, good in ((LEAST, False), (-4097, False), (-4096, True), (0, True), (4096, True), (4097, False),
                         (MOST, False)):
            self.check(fm.draw(0, 256, 2, 2, x0, 0), good)

    def test_y0(self):
        for y0, good in ((LEAST, False), (-4097, False), (-4096, True), (0, True), (4096, True), (4097, False),
                         (MOST, False)):
            self.check(fm.draw(0, 256, 2, 2, 0, y0), good)

    def test_g(self):
        for number in (LEAST, -1, 1, 2, 65536, MOST):
            given = fm.run(fm.load(self.FILE), fm.draw(number, 1, 1, 1, 0, 0))
            self.assertEqual(given[1], [-8], number)

    def test_the_largest_picture(self):
        self.check(fm.draw(0, 256, 256, 256, 128, 128), True)
        self.check(fm.draw(0, 256, 256, 256, -4096, 4096), True)


class Sizes(unittest.TestCase):
    def test_a_unit_is_size_by_units_of_a_pixel(self):
        for units in (16, 64, 256, 1000, 1024, 16384):
            for size in (1, 2, 8, 100, 256):
                # A rectangle of half the units is half the size wide and high.
                half = units // 2
                given = pictured([fm.rectangle(0, 0, half, half)], 3, 3, 0, 3, (units, size))
                ends = [min(4, max(0, sum(1 for a in range(4) if 8 * k + 2 * a + 1 < 4 * size))) for k in range(3)]
                self.assertEqual(given, [[ends[i] * ends[2 - j] for i in range(3)] for j in range(3)], (units, size))


class TheOrder(unittest.TestCase):
    BAD = fm.simple([fm.rectangle(0, 0, 1, 1)])[:-1]

    def test_without_a_font_before_all_else(self):
        for call in (fm.draw(0, 16, 1, 1, 0, 0), fm.draw(-1, 0, 0, 0, 9999, 9999)):
            self.assertEqual(fm.run(call), [[-9]])

    def test_8_before_1(self):
        for call in (fm.draw(0, 0, 1, 1, 0, 0), fm.draw(0, 16, 257, 1, 0, 0), fm.draw(0, 16, 1, 0, 0, 0),
                     fm.draw(0, 16, 1, 1, 4097, 0), fm.draw(0, 16, 1, 1, 0, -4097), fm.draw(1, 16, 1, 1, 0, 0)):
            self.assertEqual(fm.run(fm.load(fm.shapes([self.BAD])), call, fm.draw(0, 16, 1, 1, 0, 0))[1:], [[-8], [-1]])

    def test_glyphs_that_are_not_well_told(self):
        good = fm.simple([fm.rectangle(0, 0, 1, 1)])
        datas = [good, self.BAD, [0] * 9, fm.words(-2, 0, 0, 0, 0), fm.composed(fm.part(1)), fm.composed(fm.part(99)),
                 fm.composed(fm.part(6)), fm.composed(fm.part(0), fm.part(1))]
        given = fm.run(fm.load(fm.shapes(datas, 16)), *[fm.draw(k, 16, 1, 1, 0, 1) for k in range(8)],
                       fm.draw(0, 16, 1, 1, 0, 1))
        self.assertEqual(given[1:], [[0, 16]] + [[-1]] * 7 + [[0, 16]])

    def test_also_where_nothing_of_it_would_be_seen(self):
        far = fm.simple([fm.rectangle(30000, 0, 30001, 1)])[:-1]
        self.assertEqual(fm.run(fm.load(fm.shapes([far])), fm.draw(0, 1, 1, 1, -4096, 4096))[1], [-1])


if __name__ == "__main__":
    unittest.main()
