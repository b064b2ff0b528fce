"""Which glyph stands for a character: the table of characters that cmap tells of."""

from shapefile.reading import unsigned16
from shapefile.reading import unsigned32

ENDS_AT = 14
LAST_CHARACTER = 0xFFFF


def cmap_is_good(cmap):
    return records_are_whole(cmap) and character_table_is_good(character_table(cmap))


def records_are_whole(cmap):
    if len(cmap) < 4 or unsigned16(cmap, 0) != 0:
        return False
    return 4 + 8 * unsigned16(cmap, 2) <= len(cmap)


def chosen_place(cmap):
    """The place that the first fitting record tells, or None if no record fits."""
    for k in range(unsigned16(cmap, 2)):
        at = 4 + 8 * k
        platform = unsigned16(cmap, at)
        if platform == 0 or (platform == 3 and unsigned16(cmap, at + 2) == 1):
            return unsigned32(cmap, at + 4)
    return None


def character_table(cmap):
    """The chosen table of characters, as long as it says; no bytes where it can't be cut out of cmap."""
    place = chosen_place(cmap)
    if place is None or place + 4 > len(cmap) or unsigned16(cmap, place) != 4:
        return []
    size = unsigned16(cmap, place + 2)
    if place + size > len(cmap):
        return []
    return cmap[place:place + size]


def character_table_is_good(table):
    if len(table) < 16:
        return False
    twice_count = unsigned16(table, 6)
    if twice_count == 0 or twice_count % 2 == 1 or 16 + 4 * twice_count > len(table):
        return False
    return stretches_are_good(table)


def stretches_are_good(table):
    end_before = -1
    for k in range(stretch_count(table)):
        end = stretch_end(table, k)
        if end <= end_before or stretch_beginning(table, k) > end:
            return False
        end_before = end
    return end_before == LAST_CHARACTER


def stretch_count(table):
    return unsigned16(table, 6) // 2


def stretch_end(table, k):
    return unsigned16(table, ENDS_AT + 2 * k)


def beginnings_at(table):
    return ENDS_AT + 2 * stretch_count(table) + 2


def stretch_beginning(table, k):
    return unsigned16(table, beginnings_at(table) + 2 * k)


def stretch_added(table, k):
    return unsigned16(table, beginnings_at(table) + 2 * stretch_count(table) + 2 * k)


def stretch_offset_at(table, k):
    return beginnings_at(table) + 4 * stretch_count(table) + 2 * k


def stretch_of(table, character):
    """The first stretch whose end isn't below the character; the last one's end never is."""
    low = 0
    high = stretch_count(table) - 1
    # The ends rise, so halving finds it; a long text in a font of many stretches would make a walk slow.
    while low < high:
        middle = (low + high) // 2
        if stretch_end(table, middle) < character:
            low = middle + 1
        else:
            high = middle
    return low


def number_in_table(table, character):
    """The number that the table has for a character up to FFFFH, be it a glyph of the font or not."""
    k = stretch_of(table, character)
    beginning = stretch_beginning(table, k)
    if character < beginning:
        return 0
    added = stretch_added(table, k)
    offset_at = stretch_offset_at(table, k)
    offset = unsigned16(table, offset_at)
    if offset == 0:
        return (character + added) % 65536
    listed = listed_number(table, offset_at + offset + 2 * (character - beginning))
    return 0 if listed == 0 else (listed + added) % 65536


def listed_number(table, at):
    return unsigned16(table, at) if at + 2 <= len(table) else 0


def glyph_of_character(font, character):
    if character > LAST_CHARACTER:
        return 0
    glyph = number_in_table(font.characters, character)
    return glyph if glyph < font.glyph_count else 0
