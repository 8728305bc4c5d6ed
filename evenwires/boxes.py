"""Spots, and boxes of them: (least u, greatest u, least v, greatest v)."""


def spot_of(grain, x, y):
    """The spot of a place at the grain."""
    return grain * (x + y), grain * (x - y)


def far(spot, other):
    """How many grains two spots are apart."""
    return max(abs(spot[0] - other[0]), abs(spot[1] - other[1]))


def grown(box, by):
    """The box of all spots no further than that from one of the box."""
    least_u, greatest_u, least_v, greatest_v = box
    return least_u - by, greatest_u + by, least_v - by, greatest_v + by


def met(box, other):
    """The box of the spots of both boxes, or None."""
    least_u = max(box[0], other[0])
    greatest_u = min(box[1], other[1])
    least_v = max(box[2], other[2])
    greatest_v = min(box[3], other[3])
    if least_u > greatest_u or least_v > greatest_v:
        return None
    return least_u, greatest_u, least_v, greatest_v


def apart(box, other):
    """How far the nearest spots of both boxes are apart."""
    return max(0, box[0] - other[1], other[0] - box[1], box[2] - other[3], other[2] - box[3])


def nearest(box, spot):
    """The nearest spot of the box to the spot."""
    least_u, greatest_u, least_v, greatest_v = box
    return within(least_u, greatest_u, spot[0]), within(least_v, greatest_v, spot[1])


def within(least, greatest, number):
    """The nearest from the least to the greatest to the number."""
    return max(least, min(greatest, number))


def corner(box):
    """The first corner of the box."""
    return box[0], box[2]


def has(box, spot):
    """Whether the spot is one of the box."""
    return box[0] <= spot[0] <= box[1] and box[2] <= spot[1] <= box[3]
