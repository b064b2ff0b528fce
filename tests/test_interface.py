"""The interface: the list of calls, the list given back, and what is kept."""

import contextlib
import io
import unittest

from shapefile.glyphs import answers
from tests import fontmaker as fm

OTHER_CALLS = [
    fm.outline(0, 1000),
    fm.outline(-1, -1),
    fm.draw(0, 16, 3, 2, 0, 0),
    fm.draw(1, 2, 3, 4, 5, 6),
    fm.text([], 16, 1, 1, 0, 0),
    fm.text([0x41], 16, 2, 3, 4, 5),
    fm.text([1, 2, 3, 0, 6, 5, 4], 0, 0, 0, 0, 0),
    fm.text([3] * 256, 16, 1, 1, 0, 0),
]


class Unchanging(list):
    """A list that may only be read."""

    def refuse(self, *rest, **named):
        raise AssertionError("the list handed in was changed")

    append = extend = insert = pop = remove = clear = sort = reverse = refuse
    __setitem__ = __delitem__ = __iadd__ = __imul__ = refuse


SHAPES = fm.shapes([
    fm.simple([fm.rectangle(0, 0, 2, 1)]),
    fm.simple([[(0, 0, 1), (1, 0, 1), (1, 1, 0)]]),
    fm.composed(fm.part(0), fm.part(1, 1, 1)),
    [0],
], 16, [2, 1, 3, 4])

# All seven calls, good ones and refused ones, with what they answer.
ALL_CALLS = [
    (fm.outline(0, 99), [-9]),
    (fm.draw(0, 16, 1, 1, 0, 1), [-9]),
    (fm.text([0x41], 16, 1, 1, 0, 1), [-9]),
    (fm.load(SHAPES), [4]),
    (fm.glyph(0x42), [1]),
    (fm.metrics(2), [16, 3, 0, 0, 0, 0, 0]),
    (fm.outline(1, 10), [10, 3, 0, 0, 1, 1, 0, 1, 1, 1, 0]),
    (fm.outline(1, 9), [-7]),
    (fm.outline(3, 9), [-1]),
    (fm.outline(4, 9), [-8]),
    (fm.draw(0, 16, 3, 2, 0, 1), [2, 16, 16, 0, 0, 0, 0]),
    (fm.draw(0, 16, 0, 2, 0, 1), [-8]),
    (fm.draw(3, 16, 1, 2, 0, 1), [-1]),
    (fm.text([0x41, 0x41], 8, 3, 1, 0, 1), [4, 8, 8, 0]),
    (fm.text([], 8, 3, 1, 0, 1), [0, 0, 0, 0]),
    (fm.text([0x44], 8, 3, 1, 0, 1), [-1]),
    (fm.text([0x44], 8, 3, 1, 0, 4097), [-8]),
    (fm.draw(0, 16, 3, 1, -1, 1), [2, 16, 0, 0]),
    (fm.load(fm.font_without("loca")), [-3]),
    (fm.draw(0, 16, 3, 1, -1, 1), [-9]),
    (fm.load(SHAPES), [4]),
    (fm.text([0x41], 16, 2, 1, 0, 1), [2, 16, 16]),
    (fm.begin(), [0]),
    (fm.text([0x41], 16, 2, 1, 0, 1), [-9]),
]


class WhatIsGivenBack(unittest.TestCase):
    def test_all_seven_calls_in_one_list(self):
        given = fm.run(*[call for call, answer in ALL_CALLS])
        self.assertEqual(given, [answer for call, answer in ALL_CALLS])

    def test_counts_and_answers_of_all_seven(self):
        row = [number for call, answer in ALL_CALLS for number in call]
        expected = []
        for call, answer in ALL_CALLS:
            expected += [len(answer)] + answer
        self.assertEqual(answers(row), expected)
        self.assertEqual({type(number) for number in answers(row)}, {int})

    def test_the_count_ahead_of_each_answer(self):
        calls = fm.begin() + fm.load(fm.font()) + fm.glyph(0x43) + fm.metrics(0) + fm.metrics(9) + fm.begin() + fm.glyph(0)
        expected = [1, 0, 1, 4, 1, 2, 7, 1000, 500, 501, -3, -4, 500, 700, 1, -8, 1, 0, 1, -9]
        self.assertEqual(answers(calls), expected)

    def test_one_call(self):
        self.assertEqual(answers([0]), [1, 0])
        self.assertEqual(answers([1, 0]), [1, -1])
        self.assertEqual(answers([1, 3, 0, 1, 0]), [1, -1])
        self.assertEqual(answers([2, 65]), [1, -9])
        self.assertEqual(answers([3, -1]), [1, -9])
        self.assertEqual(answers([4, 0, 0]), [1, -9])
        self.assertEqual(answers([5, 0, 0, 0, 0, 0, 0]), [1, -9])
        self.assertEqual(answers([6, 0, 0, 0, 0, 0, 0]), [1, -9])
        self.assertEqual(answers([6, 0, 0, 0, 0, 0, 2, 1, 1]), [1, -9])
        self.assertEqual(answers(fm.load(fm.font())), [1, 4])

    def test_refusals_are_one_number_alone(self):
        given = fm.run(fm.metrics(0), fm.load([]), fm.load(fm.font()), fm.metrics(-1), fm.metrics(4))
        self.assertEqual(given, [[-9], [-1], [4], [-8], [-8]])

    def test_whole_numbers_in_a_list(self):
        given = answers(fm.begin() + fm.load(fm.font()) + fm.glyph(0x42) + fm.metrics(0) + fm.load([]) + fm.glyph(1))
        self.assertIs(type(given), list)
        self.assertEqual({type(number) for number in given}, {int})

    def test_a_hundred_calls(self):
        given = fm.run(fm.load(fm.font()), *[fm.glyph(0x40 + k % 6) for k in range(99)])
        self.assertEqual(given, [[4]] + [[[0, 0, 1, 2, 3, 0][k % 6]] for k in range(99)])


class CallsBehindOneAnother(unittest.TestCase):
    def test_each_call_behind_each_without_a_font(self):
        some = [fm.begin(), fm.load([]), fm.load([0, 1, 2, 3]), fm.glyph(3), fm.metrics(5)] + OTHER_CALLS
        expected = [[0], [-1], [-1]] + [[-9]] * (len(some) - 3)
        for first, first_answer in zip(some, expected):
            for second, second_answer in zip(some, expected):
                self.assertEqual(fm.run(first, second, first), [first_answer, second_answer, first_answer])

    def test_calls_behind_outline_draw_and_text_with_a_font(self):
        for call in OTHER_CALLS:
            given = fm.run(fm.load(fm.font()), call, fm.glyph(0x43), call, fm.metrics(3))
            self.assertEqual(given[1], given[3])
            self.assertTrue(len(given[1]) >= 1)
            self.assertEqual(given[2], [2])
            self.assertEqual(given[4], [1000, 502, -2, 1, 2, 3, 4])

    def test_numbers_of_a_row_are_no_calls(self):
        given = fm.run(fm.text([0, 0, 0], 0, 0, 0, 0, 0), fm.load([0, 0, 0]), fm.load([1] * 12), fm.begin())
        self.assertEqual(given, [[-9], [-1], [-1], [0]])


class WhatIsHandedIn(unittest.TestCase):
    def calls(self):
        row = fm.glyph(1) + fm.load(fm.font()) + fm.glyph(0x42) + fm.metrics(0) + fm.metrics(-7)
        for call in OTHER_CALLS:
            row += call
        row += fm.load(SHAPES)
        for call in OTHER_CALLS:
            row += call
        return row + [number for call, answer in ALL_CALLS for number in call]

    def test_it_is_as_it_was(self):
        row = self.calls()
        answers(row)
        self.assertEqual(row, self.calls())

    def test_it_is_not_changed_for_a_while_either(self):
        self.assertEqual(answers(Unchanging(self.calls())), answers(self.calls()))

    def test_what_is_given_back_is_another_list_each_time(self):
        row = self.calls()
        first = answers(row)
        copy = list(first)
        first.clear()
        self.assertEqual(answers(row), copy)


class NothingIsKept(unittest.TestCase):
    def test_two_runs_know_nothing_of_each_other(self):
        self.assertEqual(answers(fm.load(fm.font())), [1, 4])
        self.assertEqual(answers(fm.metrics(0)), [1, -9])
        self.assertEqual(answers(fm.glyph(0x42)), [1, -9])
        self.assertEqual(answers(fm.outline(0, 99)), [1, -9])
        self.assertEqual(answers(fm.draw(0, 16, 1, 1, 0, 1)), [1, -9])
        self.assertEqual(answers(fm.text([], 16, 1, 1, 0, 1)), [1, -9])

    def test_the_same_each_time(self):
        row = fm.load(fm.font()) + fm.glyph(0x42) + fm.metrics(0)
        row += fm.load(SHAPES) + fm.draw(2, 16, 4, 4, 0, 3) + fm.text([0x41, 0x43], 16, 4, 4, 0, 3) + fm.outline(2, 99)
        first = answers(row)
        other = fm.file_of(fm.tables([[]], 1, units=77))
        self.assertEqual(answers(fm.load(other) + fm.metrics(0))[:4], [1, 1, 7, 77])
        self.assertEqual(answers(row), first)

    def test_nothing_is_printed(self):
        with contextlib.redirect_stdout(io.StringIO()) as out, contextlib.redirect_stderr(io.StringIO()) as err:
            fm.run(*[call for call, answer in ALL_CALLS])
        self.assertEqual(out.getvalue() + err.getvalue(), "")


if __name__ == "__main__":
    unittest.main()
