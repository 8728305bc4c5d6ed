"""A grove: ends by their names, and their joining, kept while ends come and go."""

from evenwires.errors import Full, NoEnd, NoPlace, Twice
from evenwires.nests import joining_of
from evenwires.rows import joined, row_of

MOST_ENDS = 24


class Knot:
    """A knot of a grove: an end, with its name, or a joint, with its sides."""

    def __init__(self, name, end, sides):
        self.name = name
        self.end = end
        self.sides = sides
        self.above = None
        self.stand = None
        self.weight = 0


class Grove:
    """Ends that come and go, and their joining."""

    def __init__(self):
        self.knots = {}
        self.root = None
        self.reckonings = 0

    def come(self, name, x, y, start, load, beside=None, above=0):
        """An end comes: the first one alone, each other one beside a told end, so many joints above it."""
        if name in self.knots:
            raise Twice("an end of this name is there")
        place = self.place_beside(beside, above)
        if len(self.knots) >= MOST_ENDS:
            raise Full("there are as many ends as there may be")
        knot = end_knot(name, (x, y, start, load))
        self.knots[name] = knot
        if place is None:
            self.root = knot
        else:
            self.join_beside(place, knot)

    def go(self, name):
        """An end goes, and with it the joint above it, whose other side takes its place."""
        knot = self.knot_at(name, 0)
        del self.knots[name]
        joint = knot.above
        if joint is None:
            self.root = None
        else:
            first, second = joint.sides
            other = second if first == knot else first
            self.put_in_place(joint, other)
            self.reckon(other.above)

    def names(self):
        """The names of all ends, as they came."""
        return tuple(self.knots)

    def now(self):
        """(ends, joining), as they are now."""
        if self.root is None:
            return (), ()
        ends = tuple([knot.end for knot in self.knots.values()])
        numbers = {name: number for number, name in enumerate(self.knots)}
        return ends, joining_of(len(ends), nest_of(self.root, numbers))

    def row(self, name, above):
        """The row (height, box) of a knot of the end's chain."""
        return self.knot_at(name, above).stand

    def load(self, name, above):
        """The load of a knot of the end's chain."""
        return self.knot_at(name, above).weight

    def reckoned(self):
        """How many times a joint was reckoned."""
        return self.reckonings

    def place_beside(self, beside, above):
        """The knot beside which an end comes; None for the first one."""
        if beside is not None or len(self.knots) > 0:
            return self.knot_at(beside, above)
        if above != 0:
            raise NoPlace("the first end has no joint above it")
        return None

    def knot_at(self, name, above):
        """The knot of the end's chain that stands so many joints above it."""
        if name not in self.knots:
            raise NoEnd("no end of this name is there")
        knots = [self.knots[name]]
        while knots[-1].above is not None:
            knots.append(knots[-1].above)
        if not 0 <= above < len(knots):
            raise NoPlace("the chain has no such knot")
        return knots[above]

    def join_beside(self, place, knot):
        """The place and the new end become the sides of a new joint."""
        joint = Knot(None, None, (place, knot))
        self.put_in_place(place, joint)
        place.above = joint
        knot.above = joint
        self.reckon(joint)

    def put_in_place(self, old, new):
        """The new knot takes the place of the old one in the joint above, or as the root."""
        above = old.above
        new.above = above
        if above is None:
            self.root = new
        else:
            first, second = above.sides
            above.sides = (new, second) if first == old else (first, new)

    def reckon(self, joint):
        """The joint and those above it are reckoned, each of its two sides."""
        while joint is not None:
            first, second = joint.sides
            joint.stand = joined(first.stand, second.stand)[:2]
            joint.weight = first.weight + second.weight
            self.reckonings += 1
            joint = joint.above


def end_knot(name, end):
    """The knot of an end."""
    knot = Knot(name, end, ())
    knot.stand = row_of((end,), (0,))
    knot.weight = end[3]
    return knot


def nest_of(knot, numbers):
    """The nest of all ends beneath the knot, by the numbers that their names have."""
    if knot.name is not None:
        return numbers[knot.name]
    first, second = knot.sides
    return nest_of(first, numbers), nest_of(second, numbers)
