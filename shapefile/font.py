"""A font that has been found good, and the metrics of its glyphs."""

from shapefile.characters import character_table
from shapefile.reading import signed16
from shapefile.reading import unsigned16
from shapefile.tables import glyph_count_of
from shapefile.tables import metric_count_of
from shapefile.tables import places_of
from shapefile.tables import units_of


class Font:
    """What is kept of a font's tables."""

    def __init__(self, tables):
        self.units = units_of(tables["head"])
        self.glyph_count = glyph_count_of(tables["maxp"])
        self.metric_count = metric_count_of(tables["hhea"])
        self.hmtx = tables["hmtx"]
        self.places = places_of(tables)
        self.glyf = tables["glyf"]
        self.characters = character_table(tables["cmap"])


def has_glyph(font, glyph):
    return 0 <= glyph < font.glyph_count


def metrics_of(font, glyph):
    """The units, how far the next glyph is, the left bearing, the box's four numbers."""
    return [font.units, advance_of(font, glyph), bearing_of(font, glyph)] + box_of(font, glyph)


def advance_of(font, glyph):
    metric = min(glyph, font.metric_count - 1)
    return unsigned16(font.hmtx, 4 * metric)


def bearing_of(font, glyph):
    if glyph < font.metric_count:
        return signed16(font.hmtx, 4 * glyph + 2)
    return signed16(font.hmtx, 4 * font.metric_count + 2 * (glyph - font.metric_count))


def box_of(font, glyph):
    data = data_of(font, glyph)
    if len(data) < 10:
        return [0, 0, 0, 0]
    return [signed16(data, at) for at in (2, 4, 6, 8)]


def data_of(font, glyph):
    return font.glyf[font.places[glyph]:font.places[glyph + 1]]
