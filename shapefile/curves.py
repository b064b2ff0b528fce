"""Contours as lines: every place is told in 128ths of a font's unit, in which all of them are whole numbers."""

LINES_OF_A_CURVE = 8


def places_of(contour):
    """The places that lines go between, one behind another; the last one is the first."""
    nodes = closed_nodes(contour)
    places = [(64 * nodes[0][0], 64 * nodes[0][1])]
    at = 1
    while at < len(nodes):
        node = nodes[at]
        if node[2] == 1:
            places.append((64 * node[0], 64 * node[1]))
            at += 1
        else:
            places.extend(places_on_curve(nodes[at - 1], node, nodes[at + 1]))
            at += 2
    return places


def closed_nodes(contour):
    """The points and the middles between those off the curve, in halves of a unit, from one on the curve to itself."""
    nodes = []
    before = contour[-1]
    for point in contour:
        if before[2] == 0 and point[2] == 0:
            nodes.append((before[0] + point[0], before[1] + point[1], 1))
        nodes.append((2 * point[0], 2 * point[1], point[2]))
        before = point
    # The first is off the curve without a middle ahead of it only where the last is on the curve.
    if nodes[0][2] == 0:
        nodes.insert(0, nodes[-1])
    else:
        nodes.append(nodes[0])
    return nodes


def places_on_curve(begin, off, end):
    """The places 1 by 8 to 8 by 8 of a curve between two nodes on it."""
    # (8-k)(8-k) begin + 2k(8-k) off + kk end, from one k to the next by what's added, which itself grows evenly.
    x = 64 * begin[0]
    y = 64 * begin[1]
    x_added = 14 * off[0] + end[0] - 15 * begin[0]
    y_added = 14 * off[1] + end[1] - 15 * begin[1]
    x_growth = 2 * (begin[0] - 2 * off[0] + end[0])
    y_growth = 2 * (begin[1] - 2 * off[1] + end[1])
    places = []
    for k in range(LINES_OF_A_CURVE):
        x += x_added
        y += y_added
        places.append((x, y))
        x_added += x_growth
        y_added += y_growth
    return places
