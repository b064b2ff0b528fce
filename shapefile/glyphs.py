"""The calls on an object that holds a font, or none: one list of numbers in, one list of numbers out."""

from shapefile.characters import glyph_of_character
from shapefile.directory import directory_refusal
from shapefile.directory import tables_of
from shapefile.font import Font
from shapefile.font import has_glyph
from shapefile.font import metrics_of
from shapefile.tables import tables_refusal

BEGIN = 0
LOAD = 1
GLYPH = 2
METRICS = 3

# By a call's number, for begin, load, glyph, metrics, outline, draw, text.
NUMBERS_OF_CALL = (0, 0, 1, 1, 2, 6, 5)
CALL_HAS_ROW = (False, True, False, False, False, False, True)

NO_FONT = -9
NOT_IN_RANGE = -8


class Holder:
    """Holds a font, or none."""

    def __init__(self):
        self.font = None


def answers(calls):
    holder = Holder()
    given = []
    for call in cut_calls(calls):
        answered = answer(holder, call)
        given.append(len(answered))
        given.extend(answered)
    return given


def cut_calls(calls):
    """The calls one by one: the call's number, the list of its whole numbers, its row (empty if it has none)."""
    cut = []
    at = 0
    while at < len(calls):
        kind = calls[at]
        row_at = at + 1 + NUMBERS_OF_CALL[kind]
        numbers = calls[at + 1:row_at]
        row = []
        at = row_at
        if CALL_HAS_ROW[kind]:
            at = row_at + 1 + calls[row_at]
            row = calls[row_at + 1:at]
        cut.append((kind, numbers, row))
    return cut


def answer(holder, call):
    """The numbers that one call answers."""
    kind = call[0]
    numbers = call[1]
    if kind == BEGIN:
        holder.font = None
        return [0]
    if kind == LOAD:
        return [load(holder, call[2])]
    if holder.font is None:
        return [NO_FONT]
    if kind == GLYPH:
        return [glyph_of_character(holder.font, numbers[0])]
    if kind == METRICS:
        return answer_metrics(holder.font, numbers[0])
    # What outline, draw and text answer with a font isn't built yet: no number at all can't be taken for an answer.
    return []


def load(holder, data):
    holder.font = None
    refusal = directory_refusal(data)
    if refusal < 0:
        return refusal
    tables = tables_of(data)
    refusal = tables_refusal(tables)
    if refusal < 0:
        return refusal
    holder.font = Font(tables)
    return holder.font.glyph_count


def answer_metrics(font, glyph):
    if not has_glyph(font, glyph):
        return [NOT_IN_RANGE]
    return metrics_of(font, glyph)
