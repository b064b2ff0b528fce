"""A glyph that tells its own contours: where each ends, then the points' flags, x and y."""

from shapefile.reader import NotWellTold
from shapefile.reader import Reader

CONTOURS_AT = 10
MOST_POINTS = 4096

ON_CURVE = 1
X_IN_A_BYTE = 2
Y_IN_A_BYTE = 4
TOLD_AGAIN = 8
# With a byte: it goes up from the place before; without: the place is the same as before.
X_UP_OR_SAME = 16
Y_UP_OR_SAME = 32


def told_contours(data, contour_count):
    """The contours, one or more: a list of points (x, y, 1 on the curve or 0 not) each."""
    reader = Reader(data, CONTOURS_AT)
    ends = told_ends(reader, contour_count)
    reader.pass_over(reader.next_unsigned16())
    flags = told_flags(reader, ends[-1] + 1)
    xs = told_places(reader, flags, X_IN_A_BYTE, X_UP_OR_SAME)
    ys = told_places(reader, flags, Y_IN_A_BYTE, Y_UP_OR_SAME)
    points = [(x, y, flag & ON_CURVE) for x, y, flag in zip(xs, ys, flags)]
    return cut_behind(points, ends)


def told_ends(reader, contour_count):
    ends = []
    end_before = -1
    for k in range(contour_count):
        end = reader.next_unsigned16()
        if end <= end_before:
            raise NotWellTold("the contours' ends don't rise")
        ends.append(end)
        end_before = end
    return ends


def told_flags(reader, point_count):
    if point_count > MOST_POINTS:
        raise NotWellTold("too many points")
    flags = []
    while len(flags) < point_count:
        flag = reader.next_unsigned8()
        times = 1
        if flag & TOLD_AGAIN != 0:
            times += reader.next_unsigned8()
        if len(flags) + times > point_count:
            raise NotWellTold("more flags than points")
        flags.extend([flag] * times)
    return flags


def told_places(reader, flags, in_a_byte, up_or_same):
    """The points' x, or their y: each is told from the one before."""
    places = []
    place = 0
    for flag in flags:
        if flag & in_a_byte != 0:
            way = reader.next_unsigned8()
            place += way if flag & up_or_same != 0 else -way
        elif flag & up_or_same == 0:
            place += reader.next_signed16()
        places.append(place)
    return places


def cut_behind(points, ends):
    contours = []
    begin = 0
    for end in ends:
        contours.append(points[begin:end + 1])
        begin = end + 1
    return contours
