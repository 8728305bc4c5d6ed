"""Wires of told lengths: whether they can be laid, and where."""

from evenwires.boxes import far, grown, met
from evenwires.errors import NoFit
from evenwires.joinings import ahead
from evenwires.standing import stood
from evenwires.trees import end_spots


def fits(ends, joining, grain, lengths):
    """Whether wires of these lengths can be laid."""
    return boxes_or_none(ends, joining, grain, lengths) is not None


def boxes_by(ends, joining, grain, lengths):
    """The box of each knot: where it may stand over what is beneath it."""
    boxes = boxes_or_none(ends, joining, grain, lengths)
    if boxes is None:
        one, other = first_short(ends, joining, grain, lengths)
        raise NoFit(one, other)
    return boxes


def boxes_or_none(ends, joining, grain, lengths):
    """The box of each knot, or None where a knot has none."""
    boxes = [(u, u, v, v) for u, v in end_spots(ends, grain)]
    for one, other in joining:
        box = met(grown(boxes[one], lengths[one]), grown(boxes[other], lengths[other]))
        if box is None:
            return None
        boxes.append(box)
    return tuple(boxes)


def first_short(ends, joining, grain, lengths):
    """The first two ends between which there is less wire than they are apart."""
    spots = end_spots(ends, grain)
    many = len(ends)
    return min([
        (one, other) for other in range(many) for one in range(other)
        if wire_between(many, joining, lengths, one, other) < far(spots[one], spots[other])])


def wire_between(many, joining, lengths, one, other):
    """All wire between two ends."""
    knots = ahead(many, joining, one, other) + ahead(many, joining, other, one)
    return sum([lengths[knot] for knot in knots])


def laid(ends, joining, grain, lengths, root=None):
    """A tree of these lengths, with the root at the told spot if one is told."""
    return grain, stood(joining, boxes_by(ends, joining, grain, lengths), root), lengths
