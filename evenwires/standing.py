"""Where knots stand, once each of them has a box: from the root down."""

from evenwires.boxes import corner, has, nearest
from evenwires.errors import NoPlace
from evenwires.joinings import joints_above


def stood(joining, boxes, root):
    """The spot of each knot: the root's as told, if it is, each other one's the nearest to that of the joint above."""
    spots = [root_spot(boxes[-1], root)] * len(boxes)
    above = joints_above(joining)
    # A joint's number is above those of its sides, so it has its spot before them.
    for knot in reversed(range(len(above))):
        spots[knot] = nearest(boxes[knot], spots[above[knot]])
    return tuple(spots)


def root_spot(box, root):
    """The told spot, which must be one of the box, or the first corner where none is told."""
    if root is None:
        return corner(box)
    if not has(box, root):
        raise NoPlace("the root cannot stand at this spot")
    return root
