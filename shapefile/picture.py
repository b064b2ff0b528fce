"""Pictures: which samples glyphs cover, and how many of each pixel's."""

from shapefile.curves import places_of
from shapefile.outlines import outline_of
from shapefile.sweep import Sweep
from shapefile.sweep import add_contour
from shapefile.sweep import go_to_row
from shapefile.sweep import rows_met
from shapefile.sweep import spans_at_row
from shapefile.view import SAMPLES
from shapefile.view import columns_within
from shapefile.view import sample_at

# How many bits are 1 in a number from 0 to 15.
BITS_OF_FOUR = (0, 1, 1, 2, 1, 2, 2, 3, 1, 2, 2, 3, 2, 3, 3, 4)


def pixels_of(font, placed, view):
    """The pixels' numbers, row by row. placed: by each glyph's number, the positions it stands at, in units."""
    # A row of samples is one whole number, with a bit for each of them.
    covered = [0] * view.rows
    for glyph in placed:
        contours = outline_of(font, glyph)
        if len(contours) > 0:
            cover(covered, contours, list(placed[glyph]), view)
    return counted_pixels(covered, view)


def cover(covered, contours, positions, view):
    """Adds to each row's covered samples those of one glyph at its positions."""
    least = 128 * view.size * min([min([point[0] for point in contour]) for contour in contours])
    most = 128 * view.size * max([max([point[0] for point in contour]) for contour in contours])
    shifts = []
    reach = 0
    for position in positions:
        shift = view.left + 128 * view.size * position
        columns = columns_within(view, least + shift, most + shift)
        if columns != 0:
            shifts.append(shift)
            reach |= columns
    if reach != 0:
        cover_rows(covered, swept(contours, shifts, view), shifts, reach, view)


def swept(contours, shifts, view):
    nearest = sample_at(view, 0) - max(shifts)
    farthest = sample_at(view, view.columns - 1) - min(shifts)
    sweep = Sweep(nearest, farthest)
    for contour in contours:
        add_contour(sweep, view, places_of(contour))
    return sweep


def cover_rows(covered, sweep, shifts, reach, view):
    for row in rows_met(sweep):
        go_to_row(sweep, row)
        # Nothing of a row is worked out where all that the glyph may reach is covered already.
        if reach & ~covered[row] != 0:
            spans = spans_at_row(sweep, row)
            for shift in shifts:
                covered[row] = covered_more(covered[row], spans, shift, view)


def covered_more(mask, spans, shift, view):
    """A row's covered columns, with those that the spans cover if they are moved by a shift."""
    if len(spans) == 0:
        return mask
    missing = columns_within(view, spans[0][0] + shift, spans[-1][1] + shift) & ~mask
    if missing == 0:
        return mask
    # The same glyph may stand at many places, and most of what it covers there be covered already.
    first_missing = sample_at(view, (missing & -missing).bit_length() - 1) - shift
    last_missing = sample_at(view, missing.bit_length() - 1) - shift
    # What columns_within does stands here once more: a call for each span would double a long text's time.
    up_to_sample = shift + view.margin - 1
    spacing = view.spacing
    for begin, end in spans[first_ending_behind(spans, first_missing):]:
        if begin > last_missing:
            return mask
        first = (begin + up_to_sample) // spacing
        last = (end + up_to_sample) // spacing
        if first < last:
            mask |= (1 << min(last, view.columns)) - (1 << max(first, 0))
    return mask


def first_ending_behind(spans, place):
    low = 0
    high = len(spans)
    while low < high:
        middle = (low + high) // 2
        if spans[middle][1] <= place:
            low = middle + 1
        else:
            high = middle
    return low


def counted_pixels(covered, view):
    numbers = []
    for row in range(0, view.rows, SAMPLES):
        lines = [bits_by_four(covered[row + k], view.width) for k in range(SAMPLES)]
        numbers.extend([a + b + c + d for a, b, c, d in zip(lines[0], lines[1], lines[2], lines[3])])
    return numbers


def bits_by_four(mask, count):
    if mask == 0:
        return [0] * count
    return [BITS_OF_FOUR[(mask >> 4 * k) & 15] for k in range(count)]
