"""Makes fonts, good and broken ones, and calls on them; the tests' one helper for that."""

from shapefile.glyphs import answers

LIMIT_OF_CALLS = 100
LIMIT_OF_NUMBERS = 30000


def words(*numbers):
    """16 bits each, the high byte first; a number below 0 in its form with a sign."""
    row = []
    for number in numbers:
        row += list((number % 65536).to_bytes(2, "big"))
    return row


def longs(*numbers):
    row = []
    for number in numbers:
        row += list(number.to_bytes(4, "big"))
    return row


def put(row, at, new):
    """A copy of the row with other bytes from a place on; the row is long enough for them."""
    assert at + len(new) <= len(row)
    return row[:at] + list(new) + row[at + len(new):]


def tag(name):
    return list(name.encode("ascii"))


# --- tables

def head(units=1000, form=0, size=54):
    row = words(1, 0, 2, 3) + longs(0x12345678, 0x5F0F3CF5) + words(0x000B, units)
    row += [7] * 16 + words(-100, -200, 900, 800, 0, 8, 2, form, 0)
    assert len(row) == 54
    return (row + [0] * size)[:size]


def maxp(glyphs, size=6):
    return (longs(0x00010000) + words(glyphs) + [0] * size)[:size]


def hhea(metrics, size=36):
    return ([9] * 34 + words(metrics) + [0] * size)[:size]


def loca(places, form=0):
    if form == 0:
        assert all(place % 2 == 0 for place in places)
        return words(*[place // 2 for place in places])
    return longs(*places)


def character_table(stretches, listed=(), length=None, twice_count=None, form=4):
    """Stretches: (beginning, end, added, offset) each."""
    count = len(stretches)
    size = 16 + 8 * count + 2 * len(listed)
    row = words(form, size if length is None else length, 0)
    row += words(2 * count if twice_count is None else twice_count, 1, 2, 3)
    row += words(*[stretch[1] for stretch in stretches]) + words(0xABCD)
    row += words(*[stretch[0] for stretch in stretches])
    row += words(*[stretch[2] for stretch in stretches])
    row += words(*[stretch[3] for stretch in stretches])
    return row + words(*listed)


def cmap(table, records=((3, 1, None),), start=0, count=None):
    """Records: (platform, encoding, place) each; a place None is the table's own, behind the records."""
    row = words(start, len(records) if count is None else count)
    behind = 4 + 8 * len(records)
    for platform, encoding, place in records:
        row += words(platform, encoding) + longs(behind if place is None else place)
    return row + table


LAST_STRETCH = (0xFFFF, 0xFFFF, 1, 0)
PLAIN_STRETCHES = [(0x41, 0x44, -0x41, 0), LAST_STRETCH]


def plain_cmap():
    return cmap(character_table(PLAIN_STRETCHES))


def glyph_data(size, box=(0, 0, 0, 0)):
    return (words(1, *box) + [0x55] * size)[:size]


def tables(datas=None, metrics=2, form=0, units=1000, wanted_cmap=None, widths=None):
    """The seven needed tables of a good font, by name; datas are the glyphs' own."""
    if datas is None:
        datas = [glyph_data(12, (-3, -4, 500, 700)), [], glyph_data(8), glyph_data(10, (1, 2, 3, 4))]
    places = [0]
    for data in datas:
        places.append(places[-1] + len(data))
    if widths is None:
        widths = words(*[500 + k for k in range(2 * metrics)])
        widths += words(*[-1 - k for k in range(len(datas) - metrics)])
    return {
        "cmap": plain_cmap() if wanted_cmap is None else wanted_cmap,
        "glyf": [byte for data in datas for byte in data],
        "head": head(units, form),
        "hhea": hhea(metrics),
        "hmtx": widths,
        "loca": loca(places, form),
        "maxp": maxp(len(datas)),
    }


# --- glyphs' data

ON = 1
OFF = 0


def simple(contours, instructions=()):
    """The data of a glyph of contours of points (x, y, on); each x and y is told in 16 bits."""
    points = [point for contour in contours for point in contour]
    ends = [sum(len(contour) for contour in contours[:k + 1]) - 1 for k in range(len(contours))]
    row = words(len(contours), 0, 0, 0, 0, *ends) + words(len(instructions)) + list(instructions)
    row += [point[2] for point in points]
    for axis in (0, 1):
        before = 0
        for point in points:
            assert -32768 <= point[axis] - before <= 32767
            row += words(point[axis] - before)
            before = point[axis]
    return row


def told(ends, flags, xs, ys, instructions=()):
    """The data of a simple glyph out of its pieces; flags, xs and ys are bytes."""
    row = words(len(ends), 0, 0, 0, 0, *ends) + words(len(instructions)) + list(instructions)
    return row + list(flags) + list(xs) + list(ys)


def part(number, right=0, up=0, factors=(), wide=True, more=0, flags=None):
    """A part's record; more: other bits of its flags, flags: all of them, whatever follows."""
    if flags is None:
        flags = 2 | (1 if wide else 0) | {0: 0, 1: 8, 2: 64, 4: 128}[len(factors)] | more
    offsets = words(right, up) if wide else [right % 256, up % 256]
    return words(flags, number) + offsets + words(*factors)


def composed(*parts):
    """The data of a glyph of parts; each but the last gets the flag that another follows."""
    row = words(-1, 0, 0, 0, 0)
    for k, record in enumerate(parts):
        follows = 32 if k < len(parts) - 1 else 0
        row += [record[0], record[1] | follows] + record[2:]
    return row


def rectangle(left, low, right, high):
    """A contour that goes round to the left."""
    return [(left, low, ON), (right, low, ON), (right, high, ON), (left, high, ON)]


def turned_about(contour):
    return list(reversed(contour))


FIRST_CHARACTER = 0x41


def shapes(datas, units=1000, advances=None):
    """The file of a font of glyphs' data; the characters from FIRST_CHARACTER on are its glyphs from 0 on."""
    if advances is None:
        advances = [10 * k for k in range(len(datas))]
    widths = [number for advance in advances for number in words(advance, 0)]
    stretches = [(FIRST_CHARACTER, FIRST_CHARACTER + len(datas) - 1, -FIRST_CHARACTER, 0), LAST_STRETCH]
    parts = tables(datas, len(datas), 1, units, cmap(character_table(stretches)), widths)
    return file_of(parts)


# --- files

def file_of(parts, order=None, sums=0):
    """A font's file of tables by name, one behind another; order: the names in the directory's order."""
    names = sorted(parts, key=tag) if order is None else order
    at = 12 + 16 * len(names)
    directory = longs(0x00010000) + words(len(names), 0, 0, 0)
    body = []
    for name in names:
        directory += tag(name) + longs(sums, at + len(body), len(parts[name]))
        body += parts[name]
    return directory + body


def record_at(file, name):
    """Where the directory's record of a table begins."""
    for at in range(12, 12 + 16 * (file[4] * 256 + file[5]), 16):
        if file[at:at + 4] == tag(name):
            return at
    raise KeyError(name)


def font(**changes):
    """The file of a good font; changes: other bytes for a table, by its name."""
    parts = tables()
    parts.update(changes)
    return file_of(parts)


def font_without(name):
    parts = tables()
    del parts[name]
    return file_of(parts)


# --- calls

def begin():
    return [0]


def load(file):
    return [1, len(file)] + file


def glyph(character):
    return [2, character]


def metrics(number):
    return [3, number]


def outline(number, most):
    return [4, number, most]


def draw(number, size, w, h, x0, y0):
    return [5, number, size, w, h, x0, y0]


def text(characters, size, w, h, x0, y0):
    return [6, size, w, h, x0, y0, len(characters)] + characters


def parted(given):
    """What is given back, a list for each call's answer."""
    parts = []
    at = 0
    while at < len(given):
        parts.append(given[at + 1:at + 1 + given[at]])
        assert len(parts[-1]) == given[at], "an answer isn't as long as its count says"
        at += 1 + given[at]
    return parts


def run(*calls):
    row = [number for call in calls for number in call]
    assert 1 <= len(calls) <= LIMIT_OF_CALLS and len(row) <= LIMIT_OF_NUMBERS
    parts = parted(answers(row))
    assert len(parts) == len(calls), "not one answer for each call"
    return parts


def loaded(file):
    """What load answers."""
    return run(load(file))[0][0]


def glyphs_of(file, characters):
    """What glyph answers for each of the characters, in as many lists of calls as that takes."""
    found = []
    for at in range(0, len(characters), LIMIT_OF_CALLS - 1):
        some = characters[at:at + LIMIT_OF_CALLS - 1]
        parts = run(load(file), *[glyph(character) for character in some])
        assert all(len(part) == 1 for part in parts)
        found += [part[0] for part in parts[1:]]
    return found


ENOUGH = 2147483647


def outlines_of(datas, *numbers):
    """What outline answers for each of the glyphs, with no bound that counts."""
    return run(load(shapes(datas)), *[outline(number, ENOUGH) for number in numbers])[1:]


def outline_of(data):
    """What outline answers for a glyph of a font of its own."""
    return outlines_of([data], 0)[0]


def outline_answer(contours):
    """What outline has to answer for contours of points (x, y, on)."""
    numbers = []
    for contour in contours:
        numbers += [len(contour)] + [number for point in contour for number in point]
    return [len(numbers)] + numbers
