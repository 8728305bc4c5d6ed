"""A grove told apart from the program: names in pairs of pairs, all gone through anew each time."""

from evenwires.loads import loads_of
from evenwires.rows import rows_of
from tests.helpers import beneath_each, height_of, way_up


class PlainGrove:
    """What a grove is to hold. shape is a name, or a pair of shapes."""

    def __init__(self):
        self.ends = {}
        self.shape = None
        self.reckoned = 0

    def chain(self, name):
        """The shapes from the end up to the whole."""
        found = [self.shape]
        while found[-1] != name:
            found.append([side for side in found[-1] if name in names_in(side)][0])
        return found[::-1]

    def come(self, name, x, y, start, load, beside=None, above=0):
        if self.shape is None:
            self.shape = name
        else:
            old = self.chain(beside)[above]
            self.shape = replaced(self.shape, old, (old, name))
        self.ends[name] = (x, y, start, load)
        self.reckoned += len(self.chain(name)) - 1

    def go(self, name):
        chain = self.chain(name)
        del self.ends[name]
        if len(chain) == 1:
            self.shape = None
        else:
            other = [side for side in chain[1] if side != name][0]
            self.shape = replaced(self.shape, chain[1], other)
            self.reckoned += len(chain) - 2

    def now(self):
        rows = []

        def number(shape):
            if isinstance(shape, str):
                return list(self.ends).index(shape)
            row = tuple([number(side) for side in shape])
            rows.append(row)
            return len(self.ends) + len(rows) - 1

        if self.shape is not None:
            number(self.shape)
        return tuple(self.ends.values()), tuple(rows)

    def places(self):
        """All pairs of a name and a number that its chain has."""
        return [(name, above) for name in self.ends for above in range(len(self.chain(name)))]


def names_in(shape):
    """All names of a shape."""
    return [shape] if isinstance(shape, str) else names_in(shape[0]) + names_in(shape[1])


def replaced(shape, old, new):
    """The shape with the old part, which it has once, exchanged."""
    if shape == old:
        return new
    return shape if isinstance(shape, str) else tuple(replaced(side, old, new) for side in shape)


def knots_told(plain):
    """For each name and number the row and the load of that knot, by the ends and joining made at once."""
    ends, joining = plain.now()
    rows = rows_of(ends, joining) if ends else ()
    loads = loads_of(ends, joining)
    beneath = beneath_each(len(ends), joining)
    for knot, some in enumerate(beneath if ends else ()):
        assert rows[knot][0] == height_of(ends, some) and loads[knot] == sum(ends[end][3] for end in some)
    told = {}
    for end, name in enumerate(plain.ends):
        for above, knot in enumerate(way_up(len(ends), joining, end)):
            told[(name, above)] = (rows[knot], loads[knot])
    return told
