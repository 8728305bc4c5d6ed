"""Joinings found of ends alone: the nearest two again and again, and by halves."""

from evenwires.nests import joining_of
from evenwires.rows import joined, row_of


def nearest_joining(ends):
    """The joining that again and again joins the two knots whose ends together have the least height."""
    rows = [row_of(ends, (end,)) for end in range(len(ends))]
    free = list(range(len(ends)))
    joining = []
    while len(free) > 1:
        one, other = nearest_two(rows, free)
        free = [knot for knot in free if knot not in (one, other)] + [len(rows)]
        rows.append(joined(rows[one], rows[other])[:2])
        joining.append((one, other))
    return tuple(joining)


def nearest_two(rows, free):
    """The first pair of free knots, the lesser first, whose rows joined have the least height."""
    height, one, other = min([
        (joined(rows[one], rows[other])[0], one, other) for one in free for other in free if one < other])
    return one, other


def halved_joining(ends):
    """The joining by halves, by columns first."""
    return joining_of(len(ends), halved(ends, list(range(len(ends))), 0))


def halved(ends, some, way):
    """The nest of some ends, cut in two by x (the way 0) or by y (the way 1), its parts by the other one."""
    if len(some) == 1:
        return some[0]
    order = sorted([(ends[end][way], ends[end][1 - way], end) for end in some])
    numbers = [end for first, second, end in order]
    half = (len(some) + 1) // 2
    return halved(ends, numbers[:half], 1 - way), halved(ends, numbers[half:], 1 - way)
