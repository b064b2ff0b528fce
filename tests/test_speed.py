"""The largest pictures of fonts with many points are there in seconds, not in minutes."""

import random
import time
import unittest

from tests import fontmaker as fm

# What a user would wait for one call; most take a second or so where this was written, and machines differ.
SECONDS = 60

A = fm.FIRST_CHARACTER
LARGEST = (256, 256, 256, 0, 256)


def timed(*calls):
    began = time.monotonic()
    given = fm.run(*calls)
    return time.monotonic() - began, given


def teeth(count, height, slant):
    """Lines up and down over the whole height, closer than samples."""
    return [(k + (slant if k % 2 else 0), height if k % 2 else 0, 1) for k in range(count)]


def scattered(count, on):
    chance = random.Random(3)
    return [(chance.randint(0, 1000), chance.randint(0, 1000), on) for k in range(count)]


class Draw(unittest.TestCase):
    def check(self, contour, units):
        seconds, given = timed(fm.load(fm.shapes([fm.simple([contour])], units)), fm.draw(0, *LARGEST))
        self.assertEqual(len(given[1]), 1 + 256 * 256)
        self.assertTrue(sum(given[1]) > 100000)
        self.assertLess(seconds, SECONDS)

    def test_upright_lines(self):
        self.check(teeth(4096, 4096, 0), 4096)

    def test_slanted_lines(self):
        self.check(teeth(4096, 4096, 1500), 4096)

    def test_lines_across_each_other(self):
        self.check(scattered(4096, 1), 1000)

    def test_curves(self):
        self.check(scattered(4096, 0), 1000)

    def test_a_glyph_much_larger_than_the_picture(self):
        self.check([(8 * x - 4000, 8 * y - 4000, on) for x, y, on in scattered(4096, 0)], 16)


class Text(unittest.TestCase):
    def check(self, datas, advances, characters, units):
        seconds, given = timed(fm.load(fm.shapes(datas, units, advances)), fm.text(characters, *LARGEST))
        self.assertEqual(len(given[1]), 1 + 256 * 256)
        self.assertTrue(sum(given[1]) > 100000)
        self.assertLess(seconds, SECONDS)

    def test_256_times_a_glyph_of_curves(self):
        self.check([fm.simple([scattered(4096, 0)])], [1], [A] * 256, 1000)

    def test_256_times_teeth(self):
        self.check([fm.simple([teeth(2000, 2048, 300)])], [3], [A] * 256, 2048)

    def test_256_glyphs_of_many_points(self):
        base = fm.told([4095], [1 | 2 | 16 | 8, 255] * 16, [1] * 4096, fm.words(*[4096, -4096] * 2048))
        datas = [base] + [fm.composed(fm.part(0, k, -k, (16384 - k,))) for k in range(255)]
        self.check(datas, [2] * 256, list(range(A, A + 256)), 4096)

    def test_ordinary_text(self):
        letter = [(0, 0, 1), (500, 0, 0), (500, 700, 1), (250, 400, 0), (0, 700, 1)]
        datas = [fm.simple([[(x + k, y, on) for x, y, on in letter], fm.rectangle(50, 50, 100, 100)]) for k in range(60)]
        seconds, given = timed(fm.load(fm.shapes(datas, 1000, [600] * 60)),
                               *[fm.text([A + k % 60 for k in range(256)], 12, 256, 16, 0, 12) for call in range(90)])
        self.assertEqual(given[1][0], 256 * 600)
        self.assertLess(seconds, SECONDS)


class Outlines(unittest.TestCase):
    def test_many_outlines_of_many_points(self):
        flat = fm.told([2047], [1 | 2 | 16 | 32 | 8, 255] * 8, [1] * 2048, [])
        datas = [flat] + [fm.composed(fm.part(k, 1, 1, (-16384,))) for k in range(7)]
        datas[4] = fm.composed(fm.part(3), fm.part(3))
        seconds, given = timed(fm.load(fm.shapes(datas)), *[fm.outline(7, 12290) for call in range(80)])
        self.assertEqual(given[1][:2], [2 * (1 + 3 * 2048), 2048])
        self.assertEqual(given[80], given[1])
        self.assertLess(seconds, SECONDS)

    def test_many_parts_without_points(self):
        # Each level has the one before 400 times: walked one by one, they would never end.
        datas = [[]] + [fm.composed(*[fm.part(k, wide=False)] * 400) for k in range(8)]
        seconds, given = timed(fm.load(fm.shapes(datas)), *[fm.draw(7 + k % 2, 9, 1, 1, 0, 0) for k in range(60)])
        self.assertEqual(given[1:], [[70, 0], [-1]] * 30)
        self.assertLess(seconds, SECONDS)


class AListOfThem(unittest.TestCase):
    def test_fifteen_of_the_largest_pictures(self):
        file = fm.shapes([fm.simple([scattered(3000, 0)])], 1000, [300])
        calls = [fm.draw(0, 256, 256, 256, -k, 256 + k) for k in range(14)] + [fm.text([A] * 100, *LARGEST)]
        seconds, given = timed(fm.load(file), *calls)
        self.assertEqual([len(part) for part in given[1:]], [65537] * 15)
        self.assertLess(seconds, 15 * SECONDS)


if __name__ == "__main__":
    unittest.main()
