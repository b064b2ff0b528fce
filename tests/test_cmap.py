"""Point 3: which tables of characters are good, as far as load answers by it."""

import unittest

from tests import fontmaker as fm

GOOD = fm.character_table(fm.PLAIN_STRETCHES)
BAD = fm.character_table(fm.PLAIN_STRETCHES, form=6)


def loaded(cmap):
    return fm.loaded(fm.font(cmap=cmap))


def loaded_stretches(stretches):
    return loaded(fm.cmap(fm.character_table(stretches)))


class TheBeginningOfCmap(unittest.TestCase):
    def test_a_good_one(self):
        self.assertEqual(loaded(fm.cmap(GOOD)), 4)
        self.assertEqual(loaded(fm.cmap(GOOD) + [1, 2, 3]), 4)

    def test_fewer_than_4_bytes(self):
        for size in range(5):
            self.assertEqual(loaded(fm.words(0, 0)[:size]), -8)
        for size in range(len(fm.cmap(GOOD))):
            self.assertEqual(loaded(fm.cmap(GOOD)[:size]), -8, size)

    def test_another_number_than_0_at_0(self):
        for start in (1, 2, 256, 0xFFFF):
            self.assertEqual(loaded(fm.cmap(GOOD, start=start)), -8)

    def test_no_records(self):
        self.assertEqual(loaded(fm.cmap(GOOD, ())), -8)
        self.assertEqual(loaded(fm.cmap(GOOD, count=0)), -8)

    def test_records_that_are_not_all_there(self):
        row = fm.cmap(GOOD)
        fitting = (len(row) - 4) // 8
        self.assertEqual(len(row), 4 + 8 * fitting + 0)
        self.assertEqual(loaded(fm.put(row, 2, fm.words(fitting))), 4)
        self.assertEqual(loaded(fm.put(row, 2, fm.words(fitting + 1))), -8)
        self.assertEqual(loaded(fm.put(row, 2, fm.words(fitting + 1)) + [0] * 7), -8)
        self.assertEqual(loaded(fm.put(row, 2, fm.words(fitting + 1)) + [0] * 8), 4)
        self.assertEqual(loaded(fm.put(row, 2, fm.words(0x0101))), -8)
        self.assertEqual(loaded(fm.put(row, 2, fm.words(0xFFFF))), -8)


class TheChosenRecord(unittest.TestCase):
    def test_which_records_fit(self):
        for encoding in (0, 1, 3, 4, 5, 10, 0xFFFF):
            self.assertEqual(loaded(fm.cmap(GOOD, ((0, encoding, None),))), 4)
        self.assertEqual(loaded(fm.cmap(GOOD, ((3, 1, None),))), 4)

    def test_which_records_do_not_fit(self):
        for encoding in (0, 2, 10, 0x0101, 0x0100):
            self.assertEqual(loaded(fm.cmap(GOOD, ((3, encoding, None),))), -8)
        for platform in (1, 2, 4, 0x0100, 0x0103, 0x0300, 0xFFFF):
            self.assertEqual(loaded(fm.cmap(GOOD, ((platform, 1, None),))), -8)
            self.assertEqual(loaded(fm.cmap(GOOD, ((platform, 0, None),))), -8)

    def check_first(self, records, answer):
        self.assertEqual(loaded(fm.cmap(GOOD + BAD, records)), answer, records)

    def test_the_first_fitting_one_is_chosen(self):
        good = 4 + 8 * 2
        bad = good + len(GOOD)
        for first in ((0, 3), (3, 1), (0, 0)):
            for second in ((0, 3), (3, 1), (0, 0)):
                self.check_first(((*first, good), (*second, bad)), 4)
                self.check_first(((*first, bad), (*second, good)), -8)

    def test_those_ahead_that_do_not_fit_are_passed_over(self):
        good = 4 + 8 * 2
        bad = good + len(GOOD)
        for first in ((1, 0), (3, 0), (3, 10), (2, 1), (1, 1)):
            for second in ((0, 3), (3, 1)):
                self.check_first(((*first, bad), (*second, good)), 4)
                self.check_first(((*first, good), (*second, bad)), -8)

    def test_the_first_fitting_one_tells_the_glyphs(self):
        one = fm.character_table([(0x41, 0xFFFF, -0x41 + 1, 0)])
        two = fm.character_table([(0x41, 0xFFFF, -0x41 + 2, 0)])
        for first, second, answer in (((3, 1), (0, 3), 1), ((0, 3), (3, 1), 1), ((1, 0), (0, 3), 2), ((3, 0), (3, 1), 2)):
            row = fm.cmap(one + two, ((*first, 20), (*second, 20 + len(one))))
            self.assertEqual(fm.glyphs_of(fm.font(cmap=row), [0x41]), [answer])


class ThePlace(unittest.TestCase):
    def test_a_place_with_bytes_ahead_of_it(self):
        for ahead in (1, 2, 500):
            row = fm.cmap([0xEE] * ahead + GOOD, ((3, 1, 12 + ahead),))
            self.assertEqual(loaded(row), 4)

    def test_a_place_that_is_not_within(self):
        size = len(fm.cmap(GOOD))
        for place in (size - 5, size - 4, size - 3, size - 1, size, size + 1, 0x00010000 + 12, 0x01000000 + 12,
                      0x80000000 + 12, 0xFFFFFFFF):
            self.assertEqual(loaded(fm.cmap(GOOD, ((3, 1, place),))), -8)

    def test_only_the_head_of_a_table_is_within(self):
        for size in range(6):
            self.assertEqual(loaded(fm.cmap(GOOD + fm.words(4, 4, 4)[:size], ((3, 1, 12 + len(GOOD)),))), -8)

    def test_another_form_than_4(self):
        for form in (0, 2, 3, 5, 6, 12, 0x0104, 0x0400, 0xFFFF):
            self.assertEqual(loaded(fm.cmap(fm.character_table(fm.PLAIN_STRETCHES, form=form))), -8)


class HowLongItIs(unittest.TestCase):
    def check(self, length, answer, behind=()):
        table = fm.character_table(fm.PLAIN_STRETCHES, length=length)
        self.assertEqual(loaded(fm.cmap(table + list(behind))), answer, length)

    def test_all_within_cmap(self):
        whole = len(GOOD)
        self.check(whole, 4)
        self.check(whole + 1, -8)
        self.check(whole + 1, 4, [0])
        self.check(whole + 2, -8, [0])
        self.check(0xFFFF, -8)

    def test_all_of_the_stretches_within_its_length(self):
        whole = len(GOOD)
        for length in range(whole):
            self.check(length, -8, [0] * 100)
        self.check(whole, 4, [0] * 100)

    def test_one_stretch_is_the_least(self):
        for length, answer in ((0, -8), (4, -8), (15, -8), (16, -8), (23, -8), (24, 4), (25, 4)):
            table = fm.character_table([fm.LAST_STRETCH], length=length)
            self.assertEqual(loaded(fm.cmap(table + [0] * 10)), answer, length)

    def test_the_shortest_tables_at_cmaps_end(self):
        for size in range(4, 25):
            table = fm.character_table([fm.LAST_STRETCH], length=size)[:size]
            self.assertEqual(loaded(fm.cmap(table)), 4 if size == 24 else -8, size)


class TheStretches(unittest.TestCase):
    def test_twice_how_many(self):
        ends = [(0x41, 0x41, 0, 0), (0x42, 0x42, 0, 0), fm.LAST_STRETCH]
        whole = fm.character_table(ends)
        self.assertEqual(loaded(fm.cmap(whole)), 4)
        for twice in (0, 1, 3, 5, 7, 8, 0x0106, 0xFFFF, 0xFFFE):
            self.assertEqual(loaded(fm.cmap(fm.character_table(ends, twice_count=twice))), -8, twice)

    def test_an_odd_number_with_good_stretches(self):
        for twice in (3, 5):
            table = fm.character_table(fm.PLAIN_STRETCHES, twice_count=twice, length=100) + [0xFF] * 100
            self.assertEqual(loaded(fm.cmap(table)), -8)

    def test_no_stretches_with_all_else_good(self):
        table = fm.character_table(fm.PLAIN_STRETCHES, twice_count=0)
        self.assertEqual(loaded(fm.cmap(table)), -8)
        self.assertEqual(loaded(fm.cmap(fm.put(table, 14, [0xFF] * 2))), -8)

    def test_ends_rise(self):
        for ends, answer in (((1, 2, 0xFFFF), 4), ((2, 2, 0xFFFF), -8), ((2, 1, 0xFFFF), -8), ((0, 0, 0xFFFF), -8),
                             ((0, 1, 0xFFFF), 4), ((1, 0xFFFE, 0xFFFF), 4), ((1, 0xFFFF, 0xFFFF), -8),
                             ((0x7FFF, 0x8000, 0xFFFF), 4), ((0x8000, 0x7FFF, 0xFFFF), -8),
                             ((0x00FF, 0x0100, 0xFFFF), 4), ((0x0100, 0x00FF, 0xFFFF), -8)):
            self.assertEqual(loaded_stretches([(0, end, 0, 0) for end in ends]), answer, ends)

    def test_the_last_end_is_ffffh(self):
        for end in (0, 0xFF, 0x7FFF, 0xFFFE):
            self.assertEqual(loaded_stretches([(0, end, 0, 0)]), -8)
            self.assertEqual(loaded_stretches([(0, 0, 0, 0), (0, max(end, 1), 0, 0)]), -8)
        self.assertEqual(loaded_stretches([(0, 0xFFFF, 0, 0)]), 4)

    def test_no_beginning_above_its_end(self):
        for beginning, end, answer in ((5, 5, 4), (6, 5, -8), (0, 5, 4), (4, 5, 4), (0xFFFF, 5, -8),
                                       (0x0100, 0x00FF, -8), (0x00FF, 0x0100, 4), (0x8000, 0x7FFF, -8)):
            self.assertEqual(loaded_stretches([(beginning, end, 0, 0), fm.LAST_STRETCH]), answer)
            self.assertEqual(loaded_stretches([(0, 1, 0, 0), (beginning, end, 0, 0), fm.LAST_STRETCH]), answer)

    def test_stretches_may_share_characters(self):
        self.assertEqual(loaded_stretches([(3, 5, 0, 0), (0, 9, 0, 0), (0, 0xFFFF, 0, 0)]), 4)

    def test_added_and_offsets_may_be_anything(self):
        self.assertEqual(loaded_stretches([(3, 5, 0xFFFF, 0xFFFF), (7, 9, 0x8000, 1), (10, 0xFFFF, 0, 0xFFFF)]), 4)

    def test_the_two_bytes_between_may_be_anything(self):
        for value in (0, 1, 0xFFFF):
            table = fm.put(GOOD, 14 + 4, fm.words(value))
            self.assertEqual(fm.glyphs_of(fm.font(cmap=fm.cmap(table)), [0x41, 0x42, 0x43]), [0, 1, 2])


if __name__ == "__main__":
    unittest.main()
