"""A glyph that is composed of others: which parts it has, and how a part's points are moved."""

from shapefile.reader import NotWellTold
from shapefile.reader import Reader

PARTS_AT = 10

WIDE_OFFSETS = 1
OFFSETS_ARE_MEASURES = 2
ONE_NUMBER = 8
ANOTHER_FOLLOWS = 32
TWO_NUMBERS = 64
FOUR_NUMBERS = 128
OFFSETS_ARE_SCALED = 2048

ONE = 16384
HALF = 8192


class Part:
    """Another glyph's number, the four numbers a, b, c, d that its points are moved by, and the two offsets."""

    def __init__(self, glyph, factors, offsets):
        self.glyph = glyph
        self.factors = factors
        self.offsets = offsets


def told_parts(data):
    reader = Reader(data, PARTS_AT)
    parts = []
    flags = ANOTHER_FOLLOWS
    while flags & ANOTHER_FOLLOWS != 0:
        flags = reader.next_unsigned16()
        if flags & OFFSETS_ARE_MEASURES == 0 or flags & OFFSETS_ARE_SCALED != 0:
            raise NotWellTold("a part's flags")
        glyph = reader.next_unsigned16()
        offsets = told_offsets(reader, flags)
        parts.append(Part(glyph, told_factors(reader, flags), offsets))
    return parts


def told_offsets(reader, flags):
    if flags & WIDE_OFFSETS != 0:
        return [reader.next_signed16() for k in range(2)]
    return [reader.next_signed8() for k in range(2)]


def told_factors(reader, flags):
    """a, b, c, d in 16384ths, however many of them are told."""
    if flags & ONE_NUMBER != 0:
        both = reader.next_signed16()
        return [both, 0, 0, both]
    if flags & TWO_NUMBERS != 0:
        across = reader.next_signed16()
        return [across, 0, 0, reader.next_signed16()]
    if flags & FOUR_NUMBERS != 0:
        return [reader.next_signed16() for k in range(4)]
    return [ONE, 0, 0, ONE]


def moved_contour(contour, part):
    a = part.factors[0]
    b = part.factors[1]
    c = part.factors[2]
    d = part.factors[3]
    right = part.offsets[0]
    up = part.offsets[1]
    # A half added ahead of the division, which goes down, gives the nearest, and a half goes up.
    return [((a * x + c * y + HALF) // ONE + right, (b * x + d * y + HALF) // ONE + up, on) for x, y, on in contour]
