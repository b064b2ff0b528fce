"""Points 6 and 7: a glyph's data, and the contours it tells; as far as outline answers by it."""

import unittest

from tests import fontmaker as fm

REFUSED = [-1]

# A flag's bits.
ON = 1
X_BYTE = 2
Y_BYTE = 4
AGAIN = 8
X_UP = X_SAME = 16
Y_UP = Y_SAME = 32

STILL = X_SAME | Y_SAME


def points_of(data):
    """The points of a glyph of one contour."""
    given = fm.outline_of(data)
    assert given[0] == len(given) - 1 == 1 + 3 * given[1], given
    return [tuple(given[at:at + 3]) for at in range(2, len(given), 3)]


class TheData(unittest.TestCase):
    def test_none(self):
        self.assertEqual(fm.outline_of([]), [0])

    def test_none_between_others(self):
        one = fm.simple([[(1, 2, ON)]])
        self.assertEqual(fm.outlines_of([one, [], one], 0, 1, 2), [[4, 1, 1, 2, 1], [0], [4, 1, 1, 2, 1]])

    def test_1_to_9_bytes(self):
        for size in range(1, 10):
            for count in (0, 1, -1, -2):
                self.assertEqual(fm.outline_of((fm.words(count) + [0] * 8)[:size]), REFUSED, (size, count))

    def test_too_few_bytes_ahead_of_another_glyph(self):
        whole = fm.simple([[(1, 2, ON)]])
        for size in range(1, len(whole)):
            given = fm.outlines_of([whole[:size], whole], 0, 1)
            self.assertEqual(given, [REFUSED, [4, 1, 1, 2, 1]], size)

    def test_10_bytes(self):
        self.assertEqual(fm.outline_of(fm.words(0, 1, 2, 3, 4)), [0])
        for count in (1, 2, -1, -2, 32767, -32768):
            self.assertEqual(fm.outline_of(fm.words(count, 1, 2, 3, 4)), REFUSED, count)

    def test_no_contours_whatever_follows(self):
        for behind in ([0], [255] * 7, fm.words(0, 0), fm.simple([[(1, 2, ON)]])):
            self.assertEqual(fm.outline_of(fm.words(0, 0, 0, 0, 0) + behind), [0])

    def test_minus_1_is_parts(self):
        one = fm.simple([[(1, 2, ON)]])
        self.assertEqual(fm.outlines_of([one, fm.composed(fm.part(0))], 1), [[4, 1, 1, 2, 1]])

    def test_minus_2_and_below(self):
        one = fm.simple([[(1, 2, ON)]])
        for count in (-2, -3, -255, -256, -257, -32767, -32768):
            self.assertEqual(fm.outline_of(fm.put(one, 0, fm.words(count))), REFUSED, count)
            parts = fm.put(fm.composed(fm.part(0)), 0, fm.words(count))
            self.assertEqual(fm.outlines_of([one, parts], 1), [REFUSED], count)


class TheEnds(unittest.TestCase):
    def check(self, ends, answer):
        points = max(ends) + 1
        data = fm.told(ends, [ON | STILL] * points, [], [])
        given = fm.outline_of(data)
        if answer == REFUSED:
            self.assertEqual(given, REFUSED, ends)
        else:
            self.assertEqual(given, fm.outline_answer([[(0, 0, 1)] * count for count in answer]), ends)

    def test_ends_that_rise(self):
        self.check([0], [1])
        self.check([6], [7])
        self.check([0, 1], [1, 1])
        self.check([2, 3, 9], [3, 1, 6])
        self.check([0, 255, 256, 700], [1, 255, 1, 444])
        self.check(list(range(300)), [1] * 300)

    def test_ends_that_are_equal(self):
        for ends in ([0, 0], [3, 3], [0, 0, 5], [0, 5, 5], [0, 5, 5, 7], [256, 256]):
            self.check(ends, REFUSED)

    def test_ends_that_fall(self):
        for ends in ([1, 0], [5, 4], [0, 5, 3], [0, 5, 3, 7], [256, 255], [256, 1]):
            self.check(ends, REFUSED)

    def test_the_last_need_not_be_the_greatest_to_be_refused(self):
        self.assertEqual(fm.outline_of(fm.told([9, 2], [ON | STILL] * 30, [], [])), REFUSED)

    def test_more_contours_than_the_data_has_ends(self):
        data = fm.told([0, 1, 2], [ON | STILL] * 3, [], [])
        for count in (4, 5, 300, 32767):
            self.assertEqual(fm.outline_of(fm.put(data, 0, fm.words(count))), REFUSED)

    def test_points_of_each_contour(self):
        contours = [[(1, 2, 1)], [(3, 4, 0), (5, 6, 1)], [(-7, -8, 1), (9, -10, 1), (-11, 12, 0)]]
        self.assertEqual(fm.outline_of(fm.simple(contours)), fm.outline_answer(contours))


class Instructions(unittest.TestCase):
    def test_they_are_passed_over(self):
        for count in (0, 1, 2, 255, 256, 1000):
            data = fm.simple([[(3, -4, 1), (5, 6, 0)]], [0xEE] * count)
            self.assertEqual(points_of(data), [(3, -4, 1), (5, 6, 0)], count)

    def test_one_too_many_is_refused(self):
        data = fm.told([0], [ON | STILL], [], [])
        self.assertEqual(points_of(data), [(0, 0, 1)])
        self.assertEqual(fm.outline_of(fm.put(data, 12, fm.words(1))), REFUSED)
        self.assertEqual(fm.outline_of(fm.put(data, 12, fm.words(0xFFFF))), REFUSED)
        self.assertEqual(points_of(fm.put(data, 12, fm.words(1)) + [ON | STILL]), [(0, 0, 1)])


class Flags(unittest.TestCase):
    def test_one_for_each_point(self):
        flags = [ON | STILL, STILL, STILL, ON | STILL]
        self.assertEqual([point[2] for point in points_of(fm.told([3], flags, [], []))], [1, 0, 0, 1])

    def test_told_over_again(self):
        for times in (0, 1, 2, 5, 9):
            flags = [ON | STILL | AGAIN, times] + [STILL] * (9 - times)
            self.assertEqual([point[2] for point in points_of(fm.told([9], flags, [], []))],
                             [1] * (times + 1) + [0] * (9 - times), times)

    def test_told_over_again_behind_others(self):
        flags = [STILL, ON | STILL | AGAIN, 2, STILL | AGAIN, 0, STILL | AGAIN, 1, ON | STILL]
        self.assertEqual([point[2] for point in points_of(fm.told([7], flags, [], []))], [0, 1, 1, 1, 0, 0, 0, 1])

    def test_as_often_as_points_are_left_and_once_more(self):
        for count in (1, 2, 3, 100, 256):
            for ahead in (0, 1, 5):
                fitting = [STILL] * ahead + [ON | STILL | AGAIN, count - 1]
                data = fm.told([ahead + count - 1], fitting, [], [])
                self.assertEqual(len(points_of(data)), ahead + count)
                if count < 256:
                    data = fm.told([ahead + count - 1], fitting[:-1] + [count], [], [])
                    self.assertEqual(fm.outline_of(data + [0] * 9), REFUSED, (count, ahead))
        self.assertEqual(fm.outline_of(fm.told([0], [ON | STILL | AGAIN, 255], [], [])), REFUSED)

    def test_the_count_has_no_sign(self):
        self.assertEqual(len(points_of(fm.told([128], [STILL | AGAIN, 128], [], []))), 129)
        self.assertEqual(len(points_of(fm.told([255], [STILL | AGAIN, 255], [], []))), 256)

    def test_told_over_again_it_tells_x_and_y_again(self):
        flags = [ON | X_BYTE | X_UP | Y_BYTE | AGAIN, 2]
        data = fm.told([2], flags, [1, 2, 3], [4, 5, 6])
        self.assertEqual(points_of(data), [(1, -4, 1), (3, -9, 1), (6, -15, 1)])

    def test_over_the_contours_ends(self):
        data = fm.told([0, 3], [ON | STILL | AGAIN, 3], [], [])
        self.assertEqual(fm.outline_of(data), fm.outline_answer([[(0, 0, 1)], [(0, 0, 1)] * 3]))

    def test_bits_that_say_nothing(self):
        for more in (64, 128, 192):
            self.assertEqual(points_of(fm.told([1], [ON | STILL | more, STILL | more], [], [])), [(0, 0, 1), (0, 0, 0)])


class HowManyPoints(unittest.TestCase):
    def still(self, count):
        flags = [ON | STILL | AGAIN, 255] * (count // 256) + [ON | STILL] * (count % 256)
        return fm.told([count - 1], flags, [], [])

    def test_4096_and_4097(self):
        self.assertEqual(points_of(self.still(4095)), [(0, 0, 1)] * 4095)
        self.assertEqual(points_of(self.still(4096)), [(0, 0, 1)] * 4096)
        self.assertEqual(fm.outline_of(self.still(4097)), REFUSED)
        self.assertEqual(fm.outline_of(self.still(8192)), REFUSED)

    def test_the_greatest_end(self):
        self.assertEqual(fm.outline_of(fm.put(self.still(4096), 10, fm.words(0xFFFF))), REFUSED)
        flags = [ON | STILL | AGAIN, 255] * 256
        self.assertEqual(fm.outline_of(fm.told([0xFFFF], flags, [], [])), REFUSED)

    def test_4096_and_4097_in_several_contours(self):
        flags = [ON | STILL | AGAIN, 255] * 16
        given = fm.outline_of(fm.told([0, 4000, 4095], flags, [], []))
        self.assertEqual(given, fm.outline_answer([[(0, 0, 1)], [(0, 0, 1)] * 4000, [(0, 0, 1)] * 95]))
        self.assertEqual(fm.outline_of(fm.told([0, 4000, 4096], flags + [ON | STILL], [], [])), REFUSED)


class XAndY(unittest.TestCase):
    def test_each_form_of_x(self):
        for flag, told, answer in ((X_BYTE | X_UP, [7], 7), (X_BYTE, [7], -7), (X_BYTE | X_UP, [255], 255),
                                   (X_BYTE, [255], -255), (X_BYTE | X_UP, [0], 0), (X_BYTE, [0], 0), (X_SAME, [], 0),
                                   (0, fm.words(0), 0), (0, fm.words(300), 300), (0, fm.words(-300), -300),
                                   (0, fm.words(32767), 32767), (0, fm.words(-32768), -32768)):
            self.assertEqual(points_of(fm.told([0], [flag | Y_SAME | ON], told, [])), [(answer, 0, 1)])

    def test_each_form_of_y(self):
        for flag, told, answer in ((Y_BYTE | Y_UP, [7], 7), (Y_BYTE, [7], -7), (Y_BYTE | Y_UP, [255], 255),
                                   (Y_BYTE, [255], -255), (Y_BYTE | Y_UP, [0], 0), (Y_BYTE, [0], 0), (Y_SAME, [], 0),
                                   (0, fm.words(0), 0), (0, fm.words(300), 300), (0, fm.words(-300), -300),
                                   (0, fm.words(32767), 32767), (0, fm.words(-32768), -32768)):
            self.assertEqual(points_of(fm.told([0], [flag | X_SAME], [], told)), [(0, answer, 0)])

    def test_each_is_told_from_the_one_before(self):
        flags = [X_BYTE | X_UP | Y_BYTE, Y_BYTE | Y_UP, X_SAME, X_BYTE | Y_SAME, STILL]
        data = fm.told([4], flags, [100] + fm.words(-1000) + [30], [5, 50] + fm.words(2000))
        self.assertEqual(points_of(data), [(100, -5, 0), (-900, 45, 0), (-900, 2045, 0), (-930, 2045, 0), (-930, 2045, 0)])

    def test_from_the_last_of_the_contour_before(self):
        flags = [ON | X_BYTE | X_UP | Y_BYTE | Y_UP] * 3
        data = fm.told([0, 2], flags, [10, 20, 30], [1, 2, 3])
        self.assertEqual(fm.outline_of(data), fm.outline_answer([[(10, 1, 1)], [(30, 3, 1), (60, 6, 1)]]))

    def test_every_flag(self):
        for flag in range(256):
            if flag & AGAIN:
                continue
            xs = ([3] if flag & X_BYTE else [] if flag & X_SAME else fm.words(-500)) * 2
            ys = ([4] if flag & Y_BYTE else [] if flag & Y_SAME else fm.words(600)) * 2
            x = (3 if flag & X_UP else -3) if flag & X_BYTE else 0 if flag & X_SAME else -500
            y = (4 if flag & Y_UP else -4) if flag & Y_BYTE else 0 if flag & Y_SAME else 600
            data = fm.told([1], [flag, flag], xs, ys)
            self.assertEqual(points_of(data), [(x, y, flag & 1), (2 * x, 2 * y, flag & 1)], flag)
            if xs or ys:
                self.assertEqual(fm.outline_of(data[:-1]), REFUSED, flag)


class WhereTheDataEnds(unittest.TestCase):
    FLAGS = [ON | X_BYTE | Y_BYTE, Y_BYTE | Y_UP | AGAIN, 1, ON | X_BYTE | X_UP]
    XS = [1] + fm.words(2, 3) + [4]
    YS = [5, 6, 7] + fm.words(8)

    def test_each_beginning_of_it_is_refused(self):
        whole = fm.told([1, 3], self.FLAGS, self.XS, self.YS, [9, 9, 9])
        self.assertEqual(fm.outline_of(whole), fm.outline_answer([[(-1, -5, 1), (1, 1, 0)], [(4, 8, 0), (8, 16, 1)]]))
        for size in range(1, len(whole)):
            self.assertEqual(fm.outline_of(whole[:size]), REFUSED, size)

    def test_just_where_it_has_to_and_one_byte_short(self):
        pieces = [
            (fm.told([0], [ON | STILL], [], []), [(0, 0, 1)]),
            (fm.told([0], [ON | STILL | AGAIN, 0], [], []), [(0, 0, 1)]),
            (fm.told([0], [X_BYTE | Y_SAME], [1], []), [(-1, 0, 0)]),
            (fm.told([0], [Y_SAME], fm.words(1), []), [(1, 0, 0)]),
            (fm.told([0], [Y_BYTE | X_SAME], [], [1]), [(0, -1, 0)]),
            (fm.told([0], [X_SAME], [], fm.words(1)), [(0, 1, 0)]),
            (fm.told([1], [STILL, Y_BYTE | X_SAME], [], [1]), [(0, 0, 0), (0, -1, 0)]),
            (fm.told([1], [STILL | AGAIN, 1], [], []), [(0, 0, 0)] * 2),
        ]
        for data, points in pieces:
            self.assertEqual(points_of(data), points)
            self.assertEqual(fm.outline_of(data[:-1]), REFUSED, data)

    def test_the_ends_the_count_of_instructions_and_they(self):
        for size in (11, 12, 13, 14, 15):
            data = fm.told([0], [ON | STILL], [], [], [7, 7])
            self.assertEqual(fm.outline_of(data[:size]), REFUSED, size)

    def test_bytes_behind_the_last_y(self):
        data = fm.told([1, 3], self.FLAGS, self.XS, self.YS)
        for behind in ([0], [255], [1, 2, 3], [255] * 50):
            self.assertEqual(fm.outline_of(data + behind), fm.outline_of(data))


class TheRange(unittest.TestCase):
    """A point's x and y are from -2^24 to 2^24 - 1 (point 9)."""

    def far(self, axis, last, steps, way):
        """Steps of 16 bits each one way, then a last one of its own."""
        other = Y_SAME if axis == 0 else X_SAME
        flags = [ON | other | AGAIN, 255] * (steps // 256) + [ON | other] * (steps % 256) + [ON | other]
        told = fm.words(*[way] * steps) + fm.words(last)
        count = steps + 1
        return fm.told([count - 1], flags, told if axis == 0 else [], told if axis == 1 else [])

    def test_the_bounds(self):
        for axis in (0, 1):
            for way, last, good in ((32767, 511, True), (32767, 512, False), (-32768, 0, True), (-32768, -1, False)):
                # 512 * 32767 is 2^24 - 512; 512 * -32768 is -2^24.
                given = fm.outline_of(self.far(axis, last, 512, way))
                if good:
                    self.assertEqual(given[:2], [1 + 3 * 513, 513])
                    bound = 2 ** 24 - 1 if way > 0 else -2 ** 24
                    self.assertEqual(given[-3:], [bound, 0, 1] if axis == 0 else [0, bound, 1])
                else:
                    self.assertEqual(given, REFUSED, (axis, way, last))

    def test_a_point_in_the_midst(self):
        for axis in (0, 1):
            row = self.far(axis, 512, 512, 32767)
            back = fm.put(row, 10, fm.words(513))
            flags_end = 14 + 4 + 1
            more = back[:flags_end] + [back[flags_end - 1]] + back[flags_end:] + fm.words(-32768)
            self.assertEqual(fm.outline_of(more), REFUSED)
            self.assertEqual(fm.outline_of(fm.put(more, len(more) - 4, fm.words(511)))[:2], [1 + 3 * 514, 514])


if __name__ == "__main__":
    unittest.main()
