"""The least wire that ways alone want, whatever the reaches."""

from evenwires.boxes import far, spot_of
from evenwires.joinings import joints_above
from evenwires.standing import stood


def free_wire(ends, joining):
    """The least wire, in steps, that a tree of the joining has."""
    across, along = ways_of(ends, joining)
    return cost_of(across, joining) + cost_of(along, joining)


def free_tree(ends, joining):
    """A tree that has the free wire."""
    across, along = ways_of(ends, joining)
    # Two stretches make a box of places, whose nearest one is found as that of spots is.
    places = stood(joining, [one + other for one, other in zip(across, along)], None)
    spots = tuple([spot_of(1, x, y) for x, y in places])
    lengths = [far(spots[knot], spots[joint]) for knot, joint in enumerate(joints_above(joining))]
    return 1, spots, tuple(lengths)


def ways_of(ends, joining):
    """The stretches of each knot: of columns, and of rows."""
    columns = stretches([x for x, y, start, load in ends], joining)
    rows = stretches([y for x, y, start, load in ends], joining)
    return columns, rows


def stretches(numbers, joining):
    """The stretch of each knot, from those of the ends' numbers up."""
    found = [(number, number) for number in numbers]
    for one, other in joining:
        low, high = common(found[one], found[other])
        found.append((min(low, high), max(low, high)))
    return found


def common(one, other):
    """From where to where two stretches have all in common; the wrong way round where they lie apart."""
    return max(one[0], other[0]), min(one[1], other[1])


def cost_of(found, joining):
    """What lies between the sides' stretches, of all joints together."""
    cost = 0
    for one, other in joining:
        low, high = common(found[one], found[other])
        cost += max(0, low - high)
    return cost
