"""The calls on an object that holds a font, or none: one list of numbers in, one list of numbers out."""

from shapefile.characters import glyph_of_character
from shapefile.directory import directory_refusal
from shapefile.directory import tables_of
from shapefile.font import Font
from shapefile.font import advance_of
from shapefile.font import has_glyph
from shapefile.font import metrics_of
from shapefile.outlines import outline_numbers
from shapefile.outlines import outline_of
from shapefile.picture import pixels_of
from shapefile.reader import NotWellTold
from shapefile.tables import tables_refusal
from shapefile.view import View

BEGIN = 0
LOAD = 1
GLYPH = 2
METRICS = 3
OUTLINE = 4
DRAW = 5

# By a call's number, for begin, load, glyph, metrics, outline, draw, text.
NUMBERS_OF_CALL = (0, 0, 1, 1, 2, 6, 5)
CALL_HAS_ROW = (False, True, False, False, False, False, True)

NO_FONT = -9
NOT_IN_RANGE = -8
TOO_MANY_NUMBERS = -7
GLYPH_NOT_WELL_TOLD = -1

MOST_BYTES = 524288
MOST_OF_PICTURE = 256
FARTHEST_ORIGIN = 4096
MOST_CHARACTERS = 256


class Holder:
    """Holds a font, or none."""

    def __init__(self):
        self.font = None


def answers(calls):
    holder = Holder()
    given = []
    for call in cut_calls(calls):
        answered = answer(holder, call)
        given.append(len(answered))
        given.extend(answered)
    return given


def cut_calls(calls):
    """The calls one by one: the call's number, the list of its whole numbers, its row (empty if it has none)."""
    cut = []
    at = 0
    while at < len(calls):
        kind = calls[at]
        row_at = at + 1 + NUMBERS_OF_CALL[kind]
        numbers = calls[at + 1:row_at]
        row = []
        at = row_at
        if CALL_HAS_ROW[kind]:
            at = row_at + 1 + calls[row_at]
            row = calls[row_at + 1:at]
        cut.append((kind, numbers, row))
    return cut


def answer(holder, call):
    """The numbers that one call answers."""
    kind = call[0]
    if kind == BEGIN:
        holder.font = None
        return [0]
    if kind == LOAD:
        return [load(holder, call[2])]
    if holder.font is None:
        return [NO_FONT]
    try:
        return answer_with_font(holder.font, kind, call[1], call[2])
    except NotWellTold:
        return [GLYPH_NOT_WELL_TOLD]


def answer_with_font(font, kind, numbers, row):
    if kind == GLYPH:
        return [glyph_of_character(font, numbers[0])]
    if kind == METRICS:
        return answer_metrics(font, numbers[0])
    if kind == OUTLINE:
        return answer_outline(font, numbers[0], numbers[1])
    if kind == DRAW:
        return answer_draw(font, numbers[0], numbers[1:])
    return answer_text(font, row, numbers)


def load(holder, data):
    if len(data) > MOST_BYTES:
        return NOT_IN_RANGE
    holder.font = None
    refusal = directory_refusal(data)
    if refusal < 0:
        return refusal
    tables = tables_of(data)
    refusal = tables_refusal(tables)
    if refusal < 0:
        return refusal
    holder.font = Font(tables)
    return holder.font.glyph_count


def answer_metrics(font, glyph):
    if not has_glyph(font, glyph):
        return [NOT_IN_RANGE]
    return metrics_of(font, glyph)


def answer_outline(font, glyph, most):
    if not has_glyph(font, glyph) or most < 0:
        return [NOT_IN_RANGE]
    numbers = outline_numbers(outline_of(font, glyph))
    if len(numbers) > most:
        return [TOO_MANY_NUMBERS]
    return [len(numbers)] + numbers


def answer_draw(font, glyph, measures):
    if not has_glyph(font, glyph) or not measures_are_good(measures):
        return [NOT_IN_RANGE]
    return [advance_of(font, glyph)] + pixels_of(font, {glyph: [0]}, view_of(font, measures))


def answer_text(font, characters, measures):
    if len(characters) > MOST_CHARACTERS or not measures_are_good(measures):
        return [NOT_IN_RANGE]
    placed = {}
    position = 0
    for character in characters:
        glyph = glyph_of_character(font, character)
        # The same glyph at the same position covers nothing more.
        positions = placed.setdefault(glyph, {})
        positions[position] = True
        position += advance_of(font, glyph)
    return [position] + pixels_of(font, placed, view_of(font, measures))


def measures_are_good(measures):
    """measures: size, w, h, x0, y0."""
    for measure in measures[:3]:
        if not 1 <= measure <= MOST_OF_PICTURE:
            return False
    for origin in measures[3:]:
        if not -FARTHEST_ORIGIN <= origin <= FARTHEST_ORIGIN:
            return False
    return True


def view_of(font, measures):
    return View(font.units, measures[0], measures[1], measures[2], measures[3], measures[4])
