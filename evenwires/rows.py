"""Rows: from which spots ends are alike far, and how far. All in half steps."""

from evenwires.boxes import apart, grown, met, spot_of
from evenwires.streets import steps

GRAIN = 2


def wanted(ends, one, other):
    """How many half steps two ends want, perhaps one and the same."""
    first = ends[one]
    second = ends[other]
    return first[2] + second[2] + steps(first[:2], second[:2])


def started(ends):
    """How many half steps all starts come to."""
    return GRAIN * sum([start for x, y, start, load in ends])


def height_of(ends, some):
    """The height of some of the ends: the most that any two of them want."""
    return max([wanted(ends, one, other) for one in some for other in some])


def row_of(ends, some):
    """The row (height, box) of some of the ends."""
    height = height_of(ends, some)
    box = reached(ends[some[0]], height)
    for end in some[1:]:
        box = met(box, reached(ends[end], height))
    return height, box


def reached(end, height):
    """The box of all spots to which the end's wire comes at this height."""
    u, v = spot_of(GRAIN, end[0], end[1])
    return grown((u, u, v, v), height - GRAIN * end[2])


def joined(one, other):
    """The row of two rows joined, and each side's wire: (height, box, first, second)."""
    first_height, first_box = one
    second_height, second_box = other
    between = apart(first_box, second_box)
    height = max(first_height, second_height, (first_height + second_height + between) // 2)
    first = height - first_height
    second = height - second_height
    return height, met(grown(first_box, first), grown(second_box, second)), first, second


def rows_of(ends, joining):
    """The row of each knot, in order."""
    rows = [row_of(ends, (end,)) for end in range(len(ends))]
    for one, other in joining:
        rows.append(joined(rows[one], rows[other])[:2])
    return tuple(rows)
