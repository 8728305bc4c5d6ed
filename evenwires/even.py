"""The least even wire, and an even tree that has it. All in half steps."""

from evenwires.joinings import joints_above
from evenwires.rows import GRAIN, rows_of, started
from evenwires.standing import stood


def even_wire(ends, joining):
    """The least wire that an even tree of the joining has."""
    heights = [height for height, box in rows_of(ends, joining)]
    # A joint's height is in both its sides' wires, and goes off its own one; the root has none.
    return sum(heights[len(ends):]) + heights[-1] - started(ends)


def even_tree(ends, joining, root=None):
    """An even tree of least wire, with the root at the told spot if one is told."""
    rows = rows_of(ends, joining)
    spots = stood(joining, [box for height, box in rows], root)
    lengths = [rows[joint][0] - rows[knot][0] for knot, joint in enumerate(joints_above(joining))]
    return GRAIN, spots, tuple(lengths)
