"""Whether a font's tables are as they have to be, by themselves and beside one another."""

from shapefile.characters import cmap_is_good
from shapefile.reading import unsigned16
from shapefile.reading import unsigned32


def tables_refusal(tables):
    """-4 to -8 for the first thing that is wrong with the needed tables, 0 if nothing is."""
    # The order counts: a later look trusts the numbers that an earlier one has found good.
    if not head_is_good(tables["head"]):
        return -4
    if not maxp_is_good(tables["maxp"]):
        return -5
    if not metrics_are_good(tables):
        return -6
    if not places_are_good(places_of(tables), len(tables["glyf"])):
        return -7
    if not cmap_is_good(tables["cmap"]):
        return -8
    return 0


def head_is_good(head):
    if len(head) < 54 or unsigned32(head, 12) != 0x5F0F3CF5:
        return False
    return 16 <= units_of(head) <= 16384 and place_form_of(head) <= 1


def units_of(head):
    return unsigned16(head, 18)


def place_form_of(head):
    """0: loca has halves of places, 16 bits each; 1: places, 32 bits each."""
    return unsigned16(head, 50)


def maxp_is_good(maxp):
    return len(maxp) >= 6 and glyph_count_of(maxp) > 0


def glyph_count_of(maxp):
    return unsigned16(maxp, 4)


def metrics_are_good(tables):
    if len(tables["hhea"]) < 36:
        return False
    glyphs = glyph_count_of(tables["maxp"])
    metrics = metric_count_of(tables["hhea"])
    if metrics == 0 or metrics > glyphs:
        return False
    return 4 * metrics + 2 * (glyphs - metrics) <= len(tables["hmtx"])


def metric_count_of(hhea):
    return unsigned16(hhea, 34)


def places_of(tables):
    """Where each glyph's data begins in glyf, and where the last one's ends; none where loca is too short."""
    loca = tables["loca"]
    count = glyph_count_of(tables["maxp"]) + 1
    if place_form_of(tables["head"]) == 0:
        return [2 * unsigned16(loca, 2 * k) for k in range(count)] if 2 * count <= len(loca) else []
    return [unsigned32(loca, 4 * k) for k in range(count)] if 4 * count <= len(loca) else []


def places_are_good(places, glyf_size):
    if len(places) == 0:
        return False
    place_before = 0
    for place in places:
        if place < place_before:
            return False
        place_before = place
    return place_before <= glyf_size
