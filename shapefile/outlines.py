"""A glyph's outline: the contours that its data tells, or those of its parts."""

from shapefile.contours import MOST_POINTS
from shapefile.contours import told_contours
from shapefile.font import data_of
from shapefile.font import has_glyph
from shapefile.parts import moved_contour
from shapefile.parts import told_parts
from shapefile.reader import NotWellTold
from shapefile.reading import signed16

HEAD_SIZE = 10
COMPOSED = -1
MOST_LEVELS = 8
LOWEST = -16777216
HIGHEST = 16777215


class Outline:
    """A glyph's contours, and over how many levels it is told: 1, or one more than the deepest of its parts."""

    def __init__(self, contours, levels):
        self.contours = contours
        self.levels = levels


def outline_of(font, glyph):
    """The contours of a glyph of the font; NotWellTold is raised where it isn't told as it has to be."""
    return outline_at(font, glyph, 1, {}).contours


def outline_at(font, glyph, level, known):
    """The outline of a glyph that stands on a level of another one, or on level 1 by itself."""
    if level > MOST_LEVELS:
        raise NotWellTold("too deep")
    # Parts may share parts: without looking up what's known, eight levels could take forever.
    if glyph not in known:
        known[glyph] = new_outline(font, glyph, level, known)
    outline = known[glyph]
    if level + outline.levels - 1 > MOST_LEVELS:
        raise NotWellTold("too deep")
    return outline


def new_outline(font, glyph, level, known):
    data = data_of(font, glyph)
    if len(data) == 0:
        return Outline([], 1)
    if len(data) < HEAD_SIZE:
        raise NotWellTold("fewer bytes than its head has")
    contour_count = signed16(data, 0)
    if contour_count < COMPOSED:
        raise NotWellTold("how many contours")
    if contour_count == COMPOSED:
        outline = composed_outline(font, told_parts(data), level, known)
    elif contour_count == 0:
        outline = Outline([], 1)
    else:
        outline = Outline(told_contours(data, contour_count), 1)
    require_in_range(outline.contours)
    return outline


def composed_outline(font, parts, level, known):
    contours = []
    points = 0
    levels = 1
    for part in parts:
        if not has_glyph(font, part.glyph):
            raise NotWellTold("a part that is no glyph")
        inner = outline_at(font, part.glyph, level + 1, known)
        points += point_count(inner.contours)
        if points > MOST_POINTS:
            raise NotWellTold("too many points")
        contours.extend([moved_contour(contour, part) for contour in inner.contours])
        levels = max(levels, inner.levels + 1)
    return Outline(contours, levels)


def point_count(contours):
    return sum([len(contour) for contour in contours])


def require_in_range(contours):
    for contour in contours:
        for x, y, on in contour:
            if not (LOWEST <= x <= HIGHEST and LOWEST <= y <= HIGHEST):
                raise NotWellTold("a point out of range")


def outline_numbers(contours):
    """For each contour how many points, then of each x, y, 1 on the curve or 0 not."""
    numbers = []
    for contour in contours:
        numbers.append(len(contour))
        for point in contour:
            numbers.extend(point)
    return numbers
