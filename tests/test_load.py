"""Point 2: load and its refusals."""

import unittest

from tests import fontmaker as fm

NEEDED = ("cmap", "glyf", "head", "hhea", "hmtx", "loca", "maxp")


def glyph_count_in(form, count, metrics):
    return fm.file_of(fm.tables([fm.glyph_data(10)] * count, metrics, form))


class GoodFont(unittest.TestCase):
    def test_answers_how_many_glyphs(self):
        for form in (0, 1):
            for count in (1, 2, 5, 300):
                self.assertEqual(fm.loaded(glyph_count_in(form, count, 1)), count)

    def test_glyphs_without_data(self):
        for form in (0, 1):
            self.assertEqual(fm.loaded(fm.file_of(fm.tables([[], [], []], 1, form))), 3)

    def test_sums_are_not_looked_at(self):
        for sums in (0, 1, 0xFFFFFFFF):
            self.assertEqual(fm.loaded(fm.file_of(fm.tables(), sums=sums)), 4)

    def test_the_rest_of_the_header_is_not_looked_at(self):
        self.assertEqual(fm.loaded(fm.put(fm.font(), 6, [255] * 6)), 4)

    def test_other_tables_may_be_there(self):
        parts = fm.tables()
        parts.update({"    ": [], "OS/2": [1, 2, 3], "name": [], "zzzz": [1]})
        self.assertEqual(fm.loaded(fm.file_of(parts)), 4)

    def test_bytes_behind_the_tables_may_be_there(self):
        self.assertEqual(fm.loaded(fm.font() + [0xFF] * 5), 4)

    def test_tables_may_stand_in_any_order_in_the_file(self):
        parts = fm.tables()
        file = fm.file_of(parts)
        directory = file[:12 + 16 * 7]
        body = []
        for name in sorted(parts, reverse=True):
            at = fm.record_at(file, name)
            directory = fm.put(directory, at + 8, fm.longs(12 + 16 * 7 + len(body)))
            body += parts[name]
        moved = directory + body
        self.assertNotEqual(moved, file)
        given = fm.run(fm.load(moved), fm.metrics(0), fm.glyph(0x42))
        self.assertEqual(given, fm.run(fm.load(file), fm.metrics(0), fm.glyph(0x42)))

    def test_tables_may_share_bytes(self):
        file = fm.font()
        at = fm.record_at(file, "glyf") + 8
        whole = fm.longs(0, len(file))
        self.assertEqual(fm.loaded(fm.put(file, at, whole)), 4)


class Minus1(unittest.TestCase):
    def test_fewer_than_12_bytes(self):
        file = fm.font()
        for size in range(12):
            self.assertEqual(fm.loaded(file[:size]), -1)
        self.assertEqual(fm.loaded(fm.longs(0x00010000) + [0] * 7), -1)
        self.assertEqual(fm.loaded(fm.longs(0x00010000) + [0] * 8), -3)

    def test_another_beginning(self):
        for start in (0, 0x00010001, 0x00010100, 0x00000000, 0x00020000, 0x01010000,
                      0x74727565, 0x4F54544F, 0x74746366, 0x00000100, 0xFFFFFFFF):
            self.assertEqual(fm.loaded(fm.put(fm.font(), 0, fm.longs(start))), -1, start)

    def test_directory_is_not_whole(self):
        file = fm.font()
        whole = 12 + 16 * 7
        self.assertEqual(fm.loaded(file[:whole - 1]), -1)
        self.assertEqual(fm.loaded(file[:whole]), -2)
        for size in range(12, whole):
            self.assertEqual(fm.loaded(file[:size]), -1)

    def test_the_count_of_tables_has_16_bits(self):
        file = fm.longs(0x00010000) + fm.words(0x0100, 0, 0, 0)
        for at in range(0x0100):
            file += fm.longs(at, 0, 0, 0)
        self.assertEqual(fm.loaded(file), -3)
        self.assertEqual(fm.loaded(file[:-1]), -1)
        self.assertEqual(fm.loaded(fm.put(file, 4, fm.words(0x0101))), -1)
        self.assertEqual(fm.loaded(fm.put(file, 4, fm.words(0xFFFF))), -1)


class Minus2(unittest.TestCase):
    def test_tags_that_are_equal(self):
        for before, behind in (("cmap", "glyf"), ("loca", "maxp")):
            file = fm.font()
            equal = fm.put(file, fm.record_at(file, behind), fm.tag(before))
            self.assertEqual(fm.loaded(equal), -2)

    def test_tags_that_fall(self):
        for at in range(6):
            order = list(NEEDED)
            order[at], order[at + 1] = order[at + 1], order[at]
            self.assertEqual(fm.loaded(fm.file_of(fm.tables(), order)), -2)
        self.assertEqual(fm.loaded(fm.file_of(fm.tables(), list(NEEDED))), 4)

    def test_tags_of_tables_that_are_not_needed(self):
        parts = fm.tables()
        parts["zzzy"] = []
        parts["zzzz"] = []
        self.assertEqual(fm.loaded(fm.file_of(parts)), 4)
        self.assertEqual(fm.loaded(fm.file_of(parts, list(NEEDED) + ["zzzz", "zzzy"])), -2)
        self.assertEqual(fm.loaded(fm.file_of(parts, list(NEEDED) + ["zzzy", "zzzy"])), -2)

    def test_tags_rise_by_their_last_bits_too(self):
        for first, second, answer in ((0, 1, -3), (1, 0, -2), (0, 0, -2), (5, 5, -2), (0x7FFFFFFF, 0x80000000, -3),
                                      (0x80000000, 0x7FFFFFFF, -2), (0xFFFFFFFE, 0xFFFFFFFF, -3),
                                      (0xFFFFFFFF, 0, -2), (0x01000000, 0x00FFFFFF, -2), (0x00FFFFFF, 0x01000000, -3)):
            file = fm.longs(0x00010000) + fm.words(2, 0, 0, 0)
            file += fm.longs(first, 0, 0, 0) + fm.longs(second, 0, 0, 0)
            self.assertEqual(fm.loaded(file), answer, (first, second))

    def test_a_table_at_the_end_of_the_file(self):
        file = fm.font()
        at = fm.record_at(file, "maxp")
        self.assertEqual(file[at + 8:at + 16], fm.longs(len(file) - 6, 6))
        self.assertEqual(fm.loaded(file), 4)
        self.assertEqual(fm.loaded(file[:-1]), -2)
        self.assertEqual(fm.loaded(fm.put(file, at + 12, fm.longs(7))), -2)
        self.assertEqual(fm.loaded(fm.put(file, at + 8, fm.longs(len(file) - 5))), -2)

    def test_a_table_that_is_not_needed(self):
        parts = fm.tables()
        parts["zzzz"] = [1, 2]
        file = fm.file_of(parts)
        at = fm.record_at(file, "zzzz")
        self.assertEqual(fm.loaded(file), 4)
        self.assertEqual(fm.loaded(fm.put(file, at + 12, fm.longs(3))), -2)
        self.assertEqual(fm.loaded(fm.put(file, at + 12, fm.longs(0xFFFFFFFF))), -2)
        self.assertEqual(fm.loaded(fm.put(file, at + 8, fm.longs(0xFFFFFFFF))), -2)
        self.assertEqual(fm.loaded(fm.put(file, at + 8, fm.longs(0xFFFFFFFF, 1))), -2)
        self.assertEqual(fm.loaded(fm.put(file, at + 8, fm.longs(1, 0xFFFFFFFF))), -2)

    def test_a_table_without_bytes(self):
        parts = fm.tables()
        parts["zzzz"] = []
        file = fm.file_of(parts)
        at = fm.record_at(file, "zzzz") + 8
        self.assertEqual(fm.loaded(fm.put(file, at, fm.longs(0, 0))), 4)
        self.assertEqual(fm.loaded(fm.put(file, at, fm.longs(len(file), 0))), 4)
        self.assertEqual(fm.loaded(fm.put(file, at, fm.longs(len(file) + 1, 0))), -2)

    def test_every_table_is_looked_at(self):
        for name in NEEDED:
            file = fm.font()
            at = fm.record_at(file, name) + 12
            self.assertEqual(fm.loaded(fm.put(file, at, fm.longs(len(file)))), -2, name)


class Minus3(unittest.TestCase):
    def test_each_needed_table_missing(self):
        for name in NEEDED:
            self.assertEqual(fm.loaded(fm.font_without(name)), -3, name)

    def test_another_table_in_its_place(self):
        for name in NEEDED:
            parts = fm.tables()
            parts[name.upper()] = parts.pop(name)
            self.assertEqual(fm.loaded(fm.file_of(parts)), -3, name)

    def test_no_table_at_all(self):
        self.assertEqual(fm.loaded(fm.file_of({})), -3)


class Minus4(unittest.TestCase):
    def test_size(self):
        self.assertEqual(fm.loaded(fm.font(head=[])), -4)
        self.assertEqual(fm.loaded(fm.font(head=fm.head(size=53))), -4)
        self.assertEqual(fm.loaded(fm.font(head=fm.head(size=54))), 4)
        self.assertEqual(fm.loaded(fm.font(head=fm.head(size=55))), 4)

    def test_the_number_at_12(self):
        for at, byte in ((12, 0x5F), (13, 0x0F), (14, 0x3C), (15, 0xF5)):
            self.assertEqual(fm.loaded(fm.font(head=fm.put(fm.head(), at, [byte]))), 4)
            self.assertEqual(fm.loaded(fm.font(head=fm.put(fm.head(), at, [byte ^ 1]))), -4)

    def test_units(self):
        for units, answer in ((0, -4), (15, -4), (16, 4), (17, 4), (255, 4), (256, 4), (2048, 4), (16383, 4),
                              (16384, 4), (16385, -4), (32768, -4), (65535, -4)):
            self.assertEqual(fm.loaded(fm.font(head=fm.head(units))), answer, units)

    def test_the_number_at_50(self):
        for form in (2, 3, 256, 257, 512, 0x8000, 0xFFFF):
            self.assertEqual(fm.loaded(fm.font(head=fm.head(form=form))), -4, form)
        for form in (0, 1):
            self.assertEqual(fm.loaded(fm.file_of(fm.tables(form=form))), 4)


class Minus5(unittest.TestCase):
    def test_size(self):
        self.assertEqual(fm.loaded(fm.font(maxp=[])), -5)
        self.assertEqual(fm.loaded(fm.font(maxp=fm.maxp(4, 5))), -5)
        self.assertEqual(fm.loaded(fm.font(maxp=fm.maxp(4, 6))), 4)
        self.assertEqual(fm.loaded(fm.font(maxp=fm.maxp(4, 32))), 4)

    def test_no_glyphs(self):
        self.assertEqual(fm.loaded(fm.font(maxp=fm.maxp(0))), -5)
        self.assertEqual(fm.loaded(fm.file_of(fm.tables([[]], 1))), 1)
        self.assertEqual(fm.loaded(fm.font(maxp=fm.maxp(0x0100))), -6)


class Minus6(unittest.TestCase):
    def test_size_of_hhea(self):
        self.assertEqual(fm.loaded(fm.font(hhea=[])), -6)
        self.assertEqual(fm.loaded(fm.font(hhea=fm.hhea(2, 35))), -6)
        self.assertEqual(fm.loaded(fm.font(hhea=fm.hhea(2, 36))), 4)
        self.assertEqual(fm.loaded(fm.font(hhea=fm.hhea(2, 40))), 4)

    def test_how_many_metrics(self):
        wide = [0] * 4 * 300
        for count, answer in ((0, -6), (1, 4), (3, 4), (4, 4), (5, -6), (256, -6), (0xFFFF, -6)):
            self.assertEqual(fm.loaded(fm.font(hhea=fm.hhea(count), hmtx=wide)), answer, count)

    def test_size_of_hmtx(self):
        for count in (1, 2, 3, 4):
            size = 4 * count + 2 * (4 - count)
            for more, answer in ((-1, -6), (0, 4), (1, 4)):
                changed = fm.font(hhea=fm.hhea(count), hmtx=[1] * (size + more))
                self.assertEqual(fm.loaded(changed), answer, (count, more))
        self.assertEqual(fm.loaded(fm.font(hmtx=[])), -6)


class Minus7(unittest.TestCase):
    def changed(self, places, form, glyf_size, cut=0):
        row = fm.loca(places, form)
        return fm.loaded(fm.font(head=fm.head(form=form), loca=row[:len(row) - cut], glyf=[0] * glyf_size))

    def test_a_place_for_each_glyph_and_one_more(self):
        for form in (0, 1):
            self.assertEqual(self.changed([0, 2, 4, 6, 8], form, 8), 4)
            self.assertEqual(self.changed([0, 2, 4, 6, 8], form, 8, 1), -7)
            self.assertEqual(self.changed([0, 2, 4, 6], form, 8), -7)
            self.assertEqual(self.changed([], form, 8), -7)

    def test_more_places_than_that_are_not_looked_at(self):
        for form in (0, 1):
            self.assertEqual(self.changed([0, 2, 4, 6, 8, 0, 1000], form, 8), 4)

    def test_places_that_fall(self):
        for form in (0, 1):
            for at in range(1, 5):
                places = [10, 10, 10, 10, 10]
                self.assertEqual(self.changed(places, form, 10), 4)
                places[at] = 8
                self.assertEqual(self.changed(places, form, 10), -7, (form, at))
                places = [2, 4, 6, 8, 10]
                places[at - 1] = places[at] + 2
                self.assertEqual(self.changed(places, form, 12), -7, (form, at))

    def test_the_last_place(self):
        for form in (0, 1):
            self.assertEqual(self.changed([0, 2, 4, 6, 8], form, 9), 4)
            self.assertEqual(self.changed([0, 2, 4, 6, 8], form, 8), 4)
            self.assertEqual(self.changed([0, 2, 4, 6, 8], form, 7), -7)
            self.assertEqual(self.changed([0, 0, 0, 0, 0], form, 0), 4)
            self.assertEqual(self.changed([0, 0, 0, 0, 2], form, 1), -7)
            self.assertEqual(self.changed([0, 0, 0, 0, 2], form, 0), -7)

    def test_odd_places_of_32_bits(self):
        self.assertEqual(self.changed([1, 3, 3, 5, 9], 1, 9), 4)
        self.assertEqual(self.changed([1, 3, 3, 5, 9], 1, 8), -7)
        self.assertEqual(self.changed([1, 4, 3, 5, 9], 1, 9), -7)

    def test_places_of_16_bits_are_halves_and_have_no_sign(self):
        self.assertEqual(self.changed([0, 0, 0, 0, 2 * 0x1234], 0, 2 * 0x1234), 4)
        self.assertEqual(self.changed([0, 0, 0, 0, 2 * 0x1234], 0, 2 * 0x1234 - 1), -7)
        self.assertEqual(self.changed([0, 0, 0, 0, 2 * 0xFFFF], 0, 100), -7)

    def test_places_of_32_bits_have_no_sign(self):
        self.assertEqual(self.changed([0, 0, 0, 0, 0x00001235], 1, 0x1235), 4)
        for far in (0x00010000, 0x01000000, 0x80000000, 0xFFFFFFFF):
            self.assertEqual(self.changed([0, 0, 0, 0, far], 1, 100), -7)
            self.assertEqual(self.changed([0, 0, far, far, far], 1, 100), -7)


def broken_tables(causes):
    """The tables with a fault for each of the causes -3 to -8."""
    parts = fm.tables()
    if -4 in causes:
        parts["head"] = fm.head(units=15)
    if -5 in causes:
        parts["maxp"] = fm.maxp(0)
    if -6 in causes:
        parts["hhea"] = fm.hhea(0)
    if -7 in causes:
        parts["loca"] = fm.words(0, 1, 0, 3, 4)
    if -8 in causes:
        parts["cmap"] = fm.put(parts["cmap"], 0, fm.words(1))
    if -3 in causes:
        parts.pop("glyf")
    return parts


def broken_file(causes):
    file = fm.file_of(broken_tables(causes))
    if -2 in causes:
        file = fm.put(file, 12 + 12, fm.longs(len(file)))
    if -1 in causes:
        file = fm.put(file, 0, fm.longs(0x00020000))
    return file


class TheFirstOfTheCauses(unittest.TestCase):
    def test_one_cause(self):
        for cause in range(-8, 0):
            self.assertEqual(fm.loaded(broken_file([cause])), cause)

    def test_two_causes(self):
        for first in range(-8, 0):
            for second in range(-8, first):
                self.assertEqual(fm.loaded(broken_file([first, second])), first, (first, second))

    def test_all_causes_from_one_on(self):
        for first in range(-8, 0):
            self.assertEqual(fm.loaded(broken_file(list(range(-8, first + 1)))), first)


class WhatIsKept(unittest.TestCase):
    def test_a_refused_load_leaves_no_font(self):
        for cause in range(-8, 0):
            given = fm.run(fm.load(fm.font()), fm.load(broken_file([cause])), fm.metrics(0), fm.glyph(0x41))
            self.assertEqual(given, [[4], [cause], [-9], [-9]])

    def test_a_good_load_takes_the_place_of_the_font_before(self):
        other = fm.file_of(fm.tables([fm.glyph_data(10, (9, 8, 7, 6))], 1, 1, 64,
                                     fm.cmap(fm.character_table([(0x20, 0xFFFF, -0x20, 0)])), fm.words(77, -78)))
        given = fm.run(fm.load(fm.font()), fm.metrics(3), fm.glyph(0x42), fm.load(other), fm.metrics(0),
                       fm.metrics(3), fm.glyph(0x42), fm.load(fm.font()), fm.metrics(3), fm.glyph(0x42))
        self.assertEqual(given[0:3], [[4], [1000, 502, -2, 1, 2, 3, 4], [1]])
        self.assertEqual(given[3:7], [[1], [64, 77, -78, 9, 8, 7, 6], [-8], [0]])
        self.assertEqual(given[7:], given[0:3])

    def test_a_good_load_behind_a_refused_one(self):
        given = fm.run(fm.load([]), fm.metrics(0), fm.load(fm.font()), fm.metrics(1))
        self.assertEqual(given, [[-1], [-9], [4], [1000, 502, 503, 0, 0, 0, 0]])


class AnyBytes(unittest.TestCase):
    def check(self, file):
        given = fm.run(fm.load(file), fm.glyph(0x41), fm.glyph(0x44), fm.glyph(0xFFFF), fm.metrics(0), fm.metrics(3))
        if given[0][0] < 0:
            self.assertTrue(-8 <= given[0][0])
            self.assertEqual(given[1:], [[-9]] * 5)
        else:
            self.assertEqual([len(part) for part in given[:5]], [1, 1, 1, 1, 7])
            self.assertTrue(all(0 <= part[0] < given[0][0] for part in given[1:4]))

    def test_each_beginning_of_a_font(self):
        file = fm.font()
        for size in range(len(file)):
            self.check(file[:size])
            self.assertIn(fm.loaded(file[:size]), (-1, -2))

    def test_each_byte_of_a_font_changed(self):
        for form in (0, 1):
            file = fm.file_of(fm.tables(form=form))
            for at in range(len(file)):
                for byte in (0, 1, 2, 127, 128, 255, (file[at] + 1) % 256, (file[at] - 1) % 256):
                    self.check(fm.put(file, at, [byte]))

    def test_more_bytes_than_load_takes(self):
        # More than the interface hands in; the words say -8, and nothing changes.
        file = fm.font()
        for size, answer in ((524288, 4), (524289, -8)):
            longer = file + [0] * (size - len(file))
            given = fm.parted(fm.answers(fm.load(file) + fm.load(longer) + fm.metrics(1)))
            self.assertEqual(given, [[4], [answer], [1000, 502, 503, 0, 0, 0, 0]])

    def test_the_longest_font(self):
        file = fm.font()
        self.assertEqual(fm.loaded(file + [0] * (29900 - len(file))), 4)
        self.assertEqual(fm.loaded([0] * 29900), -1)


if __name__ == "__main__":
    unittest.main()
