"""The lines of one glyph, met row by row of samples from the top down, and the spans they go round."""

from shapefile.view import row_below


class Sweep:
    """The lines by the row they begin with, and those that are met at the row it has come to.

    A line is (base, slope, depth, the row behind its last): at a row it crosses at base + slope * row by depth,
    rounded down. What lies left of nearest or right of farthest, the outermost samples that are asked for, need not
    be told from each other: to the left only how many more rise than fall is kept, to the right nothing.
    """

    def __init__(self, nearest, farthest):
        self.nearest = nearest
        self.farthest = farthest
        self.rising = {}
        self.falling = {}
        self.ended = {}
        self.risen_left = {}
        self.rising_now = []
        self.falling_now = []
        self.risen_left_now = 0


def add_contour(sweep, view, places):
    size = view.size
    top = view.top
    before = None
    for x, y in places:
        down = top - size * y
        place = (size * x, down, row_below(view, down))
        if before is not None and before[2] != place[2]:
            add_line(sweep, view, before, place)
        before = place


def add_line(sweep, view, begin, end):
    """A line between two places (x, y down the picture, row below) that has rows between them."""
    falls = begin[2] < end[2]
    upper = begin if falls else end
    lower = end if falls else begin
    first = upper[2]
    last = lower[2]
    depth = lower[1] - upper[1]
    width = lower[0] - upper[0]
    # A sample is left of the line if it is less than the crossing rounded up: depth - 1 turns down into up.
    base = upper[0] * depth + width * (view.margin - upper[1]) + depth - 1
    slope = width * view.spacing
    at_first = (base + slope * first) // depth
    at_last = (base + slope * (last - 1)) // depth
    if at_first > sweep.farthest and at_last > sweep.farthest:
        return
    if at_first <= sweep.nearest and at_last <= sweep.nearest:
        way = -1 if falls else 1
        sweep.risen_left[first] = sweep.risen_left.get(first, 0) + way
        sweep.risen_left[last] = sweep.risen_left.get(last, 0) - way
        return
    lines = sweep.falling if falls else sweep.rising
    lines.setdefault(first, []).append((base, slope, depth, last))
    sweep.ended[last] = True


def rows_met(sweep):
    """The rows from the first that a line begins with to the last that one ends with, all between too."""
    changed = list(sweep.rising) + list(sweep.falling) + list(sweep.ended) + list(sweep.risen_left)
    return list(range(min(changed), max(changed))) if len(changed) > 0 else []


def go_to_row(sweep, row):
    """Makes the lines that are met at a row those of now; the rows are gone to one after another."""
    if row in sweep.ended:
        sweep.rising_now = [line for line in sweep.rising_now if line[3] > row]
        sweep.falling_now = [line for line in sweep.falling_now if line[3] > row]
    sweep.rising_now.extend(sweep.rising.get(row, []))
    sweep.falling_now.extend(sweep.falling.get(row, []))
    sweep.risen_left_now += sweep.risen_left.get(row, 0)


def spans_at_row(sweep, row):
    """The spans that the contours go round other than 0 times, apart from each other, from left to right."""
    ups = crossings(sweep.rising_now, row)
    downs = crossings(sweep.falling_now, row)
    if sweep.risen_left_now > 0:
        ups = [sweep.nearest] * sweep.risen_left_now + ups
    elif sweep.risen_left_now < 0:
        downs = [sweep.nearest] * -sweep.risen_left_now + downs
    # Contours are closed: what one of both lacks was left out, right of all samples.
    lacking = len(ups) - len(downs)
    if lacking > 0:
        downs.extend([sweep.farthest + 1] * lacking)
    elif lacking < 0:
        ups.extend([sweep.farthest + 1] * -lacking)
    return spans_between(ups, downs, sweep.nearest)


def crossings(lines, row):
    return sorted([(base + slope * row) // depth for base, slope, depth, last in lines])


def spans_between(ups, downs, begin):
    """From begin on, where not as many lines rise as fall to the left.

    More rise than fall to the left of a place if, for some k, the k-th that rises is left of it and the k-th that
    falls isn't; and the other way about. So the spans between the k-th of both are all of it.
    """
    spans = []
    end = begin
    for up, down in zip(ups, downs):
        left = up if up < down else down
        if left > end:
            if begin < end:
                spans.append((begin, end))
            begin = left
        end = down if up < down else up
    if begin < end:
        spans.append((begin, end))
    return spans
