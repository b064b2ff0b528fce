"""A picture's measures, all of them whole numbers."""

SAMPLES = 4


class View:
    """Lengths are counted in steps so small that a pixel has 128 times the font's units of them.

    A 128th of a font's unit then has as many steps as the size says, a sample stands at 16 times the units from a
    pixel's edge, and the next one 32 times the units on: no place needs a fraction.
    """

    def __init__(self, units, size, w, h, x0, y0):
        self.size = size
        self.width = w
        self.columns = SAMPLES * w
        self.rows = SAMPLES * h
        self.margin = 16 * units
        self.spacing = 32 * units
        self.left = 128 * units * x0
        self.top = 128 * units * y0


def row_below(view, y):
    """The first row of samples that lies below y, which goes down the picture; 0 and past the last are the bounds."""
    row = (y + view.margin) // view.spacing
    return min(max(row, 0), view.rows)


def sample_at(view, column):
    return view.margin + view.spacing * column


def columns_within(view, begin, end):
    """The columns whose samples aren't left of begin, but left of end: a bit for each."""
    first = (begin + view.margin - 1) // view.spacing
    last = (end + view.margin - 1) // view.spacing
    if first >= last or last <= 0 or first >= view.columns:
        return 0
    return (1 << min(last, view.columns)) - (1 << max(first, 0))
