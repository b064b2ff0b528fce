"""Points 8 and 10 to 12 told once more, sample by sample with fractions, and compared over many made-up glyphs."""

import random
import unittest
from fractions import Fraction

from tests import fontmaker as fm


def plain_lines(contour):
    """A contour's lines, from (x, y) to (x, y) each."""
    points = []
    for k, point in enumerate(contour):
        after = contour[(k + 1) % len(contour)]
        points.append((Fraction(point[0]), Fraction(point[1]), point[2]))
        if point[2] == 0 and after[2] == 0:
            points.append((Fraction(point[0] + after[0], 2), Fraction(point[1] + after[1], 2), 1))
    first = [point[2] for point in points].index(1)
    points = points[first:] + points[:first + 1]
    lines = []
    while len(points) > 1:
        if points[1][2] == 1:
            lines.append((points[0][:2], points[1][:2]))
            points = points[1:]
        else:
            curve = [plain_place(points[0], points[1], points[2], k) for k in range(9)]
            lines += list(zip(curve, curve[1:]))
            points = points[2:]
    return lines


def plain_place(begin, off, end, k):
    return tuple(((8 - k) ** 2 * begin[axis] + 2 * k * (8 - k) * off[axis] + k ** 2 * end[axis]) / 64 for axis in (0, 1))


def times_round(lines, x, y):
    count = 0
    for p, q in lines:
        # Above 0 where the sample is left of the line, as one looks from p to q.
        side = (q[0] - p[0]) * (y - p[1]) - (x - p[0]) * (q[1] - p[1])
        if p[1] <= y < q[1] and side > 0:
            count += 1
        if q[1] <= y < p[1] and side < 0:
            count -= 1
    return count


def plain_picture(glyphs, units, size, w, h, x0, y0):
    """glyphs: (contours, position) each."""
    # All of it times 1024 times the size: whole numbers, which go faster than fractions.
    large = 1024 * size
    drawings = []
    for contours, position in glyphs:
        lines = [line for contour in contours for line in plain_lines(contour)]
        drawings.append([tuple((int((x + position) * large), int(y * large)) for x, y in line) for line in lines])
    numbers = []
    for j in range(h):
        for i in range(w):
            numbers.append(0)
            for a, b in [(a, b) for a in range(4) for b in range(4)]:
                x = (8 * i + 2 * a + 1 - 8 * x0) * units * 128
                y = (8 * y0 - 8 * j - 2 * b - 1) * units * 128
                numbers[-1] += any(times_round(lines, x, y) != 0 for lines in drawings)
    return numbers


def some_contours(chance, span):
    """Contours of few points on few places, so that lines meet samples, corners and one another."""
    contours = []
    for k in range(chance.choice((0, 1, 1, 2, 2, 3))):
        count = chance.choice((1, 2, 3, 3, 4, 4, 5, 7))
        kinds = chance.choice(((1,), (0,), (0, 1), (0, 1, 1)))
        low = -span // 2
        contours.append([(chance.randint(low, span), chance.randint(low, span), chance.choice(kinds)) for n in range(count)])
    return contours


def data_of(contours):
    return fm.simple(contours) if contours else []


def moved(contours, factors, right, up):
    a, b, c, d = factors

    def nearest(number):
        return int((Fraction(number, 16384) + Fraction(1, 2)) // 1)

    return [[(nearest(a * x + c * y) + right, nearest(b * x + d * y) + up, on) for x, y, on in contour]
            for contour in contours]


class AgainstPlain(unittest.TestCase):
    def check(self, seed):
        chance = random.Random(seed)
        units = chance.choice((16, 16, 17, 32, 64, 100, 128, 1000, 16384))
        size = chance.choice((1, 2, 4, 8, 16, 16, 32, 33, 100, 256))
        span = min(12000, chance.choice((8, 16, units // 2, units, 2 * units)))
        shapes = [some_contours(chance, span) for k in range(3)]
        factors = [chance.choice((0, 16384, -16384, 8192, -8192, 5000, -32768, 32767)) for k in range(4)]
        offsets = [chance.randint(-span, span) for k in range(2)]
        datas = [data_of(contours) for contours in shapes]
        datas.append(fm.composed(fm.part(0), fm.part(1, *offsets, factors)))
        shapes.append(shapes[0] + moved(shapes[1], factors, *offsets))
        advances = [chance.choice((0, 1, 3, units // 4, units // 2, units, span)) for k in range(4)]
        w = chance.randint(1, 5)
        h = chance.randint(1, 5)
        pixels = span * size // units
        measures = [size, w, h, chance.randint(-pixels // 2, w), chance.randint(0, h + pixels // 2)]
        text = [chance.randint(0, 3) for k in range(chance.randint(0, 5))]
        given = fm.run(fm.load(fm.shapes(datas, units, advances)),
                       fm.draw(0, *measures), fm.draw(3, *measures),
                       fm.text([fm.FIRST_CHARACTER + number for number in text], *measures))[1:]
        self.assertEqual(given[0], [advances[0]] + plain_picture([(shapes[0], 0)], units, *measures))
        self.assertEqual(given[1], [advances[3]] + plain_picture([(shapes[3], 0)], units, *measures))
        placed = []
        position = 0
        for number in text:
            placed.append((shapes[number], position))
            position += advances[number]
        self.assertEqual(given[2], [position] + plain_picture(placed, units, *measures))
        return sum(given[0][1:]) + sum(given[1][1:]) + sum(given[2][1:])

    def test_many(self):
        covered = [self.check(seed) for seed in range(250)]
        self.assertTrue(sum(1 for count in covered if count > 0) > 120)

    def test_many_points_in_a_small_picture(self):
        chance = random.Random(7)
        for k in range(6):
            contours = [[(chance.randint(-20, 60), chance.randint(-20, 60), chance.randint(0, 1)) for n in range(150)]
                        for m in range(2)]
            for measures in ((16, 4, 4, 0, 4), (256, 3, 3, -300, 300), (7, 5, 5, 2, 3)):
                given = fm.run(fm.load(fm.shapes([fm.simple(contours)], 128)), fm.draw(0, *measures))[1]
                self.assertEqual(given[1:], plain_picture([(contours, 0)], 128, *measures))

    def check_pictures(self, shapes, units, measures):
        """Several glyphs of one contour each, in one font."""
        datas = [fm.simple([contour]) for contour in shapes]
        given = fm.run(fm.load(fm.shapes(datas, units)), *[fm.draw(k, *measures) for k in range(len(shapes))])[1:]
        for contour, answer in zip(shapes, given):
            self.assertEqual(answer[1:], plain_picture([([contour], 0)], units, *measures), (contour, measures))

    def test_triangles_around_a_pixel(self):
        # In eighths of a pixel: many of their lines go through samples, the outermost too.
        chance = random.Random(9)
        for k in range(30):
            shapes = [[(chance.randint(-3, 11), chance.randint(-3, 11), 1) for n in range(3)] for m in range(60)]
            self.check_pictures(shapes, 128, (16, 1, 1, 0, 1))

    def test_lines_that_cross_a_corner_of_the_picture(self):
        # In halves of a pixel: long lines, flat and steep ones, that leave the picture at its sides.
        chance = random.Random(10)
        for k in range(12):
            w = chance.randint(1, 8)
            h = chance.randint(1, 8)
            shapes = [[(chance.randint(-90, 90), chance.randint(-30, 30), 1) for n in range(3)] for m in range(20)]
            shapes += [[(chance.randint(-30, 30), chance.randint(-90, 90), 1) for n in range(3)] for m in range(20)]
            self.check_pictures(shapes, 32, (16, w, h, chance.randint(-4, 12), chance.randint(-4, 12)))

    def test_curves_at_the_smallest_size(self):
        # A pixel has 16 units, the places on a curve their 64ths: crossings differ least from samples here.
        chance = random.Random(11)
        for k in range(20):
            shapes = [[(chance.randint(-9, 40), chance.randint(-9, 40), n % 2) for n in range(4)] for m in range(20)]
            self.check_pictures(shapes, 16, (1, 2, 2, 0, 2))
        # Lines that cross less than a 128th of a unit right of the first sample.
        shapes = [[(4, 29, 0), (4, 3, 1), (0, 22, 0)], [(22, 34, 0), (-4, -2, 1), (32, 7, 0)],
                  [(21, 1, 0), (-4, 31, 1), (24, 8, 0)], [(-5, 15, 0), (1, -5, 1), (1, 37, 0), (24, 38, 1)]]
        self.check_pictures(shapes, 16, (1, 2, 2, 0, 2))

    def test_a_glyph_over_itself_many_times(self):
        chance = random.Random(8)
        for k in range(4):
            # Upright and slanted teeth, narrower than the samples lie apart.
            contours = [[(3 * n, -4, 1), (3 * n + 1, -4, 1), (3 * n + 1 + chance.randint(-2, 2), 30, 1)] for n in range(15)]
            for advance in (1, 2, 5):
                placed = [(contours, advance * n) for n in range(12)]
                given = fm.run(fm.load(fm.shapes([fm.simple(contours)], 100, [advance])),
                               fm.text([fm.FIRST_CHARACTER] * 12, 16, 6, 3, 0, 3))[1]
                self.assertEqual(given, [12 * advance] + plain_picture(placed, 100, 16, 6, 3, 0, 3))


if __name__ == "__main__":
    unittest.main()
