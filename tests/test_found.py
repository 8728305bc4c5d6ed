"""Joinings found: points 21 and 22."""

import itertools
import random
import unittest

from evenwires.ends import is_joining
from evenwires.found import halved_joining, nearest_joining
from tests.helpers import any_ends, ask, height_of, tell

MILLION = 10 ** 6
CORNERS = tuple((x, y, start, 1) for x in (-MILLION, MILLION) for y in (-MILLION, MILLION) for start in (0, MILLION))


def at(*places):
    """Ends at these places, with neither starts nor loads."""
    return tuple((x, y, 0, 0) for x, y in places)


def along(*columns):
    return at(*[(x, 0) for x in columns])


def nearest_told(ends):
    """The nearest joining by what is told of it: all pairs of knots gone through at each step."""
    many = len(ends)
    beneath = {end: (end,) for end in range(many)}
    free = set(range(many))
    rows = []
    while len(free) > 1:
        pairs = list(itertools.combinations(sorted(free), 2))
        heights = [height_of(ends, beneath[one] + beneath[other]) for one, other in pairs]
        one, other = pairs[heights.index(min(heights))]
        joint = many + len(rows)
        beneath[joint] = beneath[one] + beneath[other]
        free = free - {one, other} | {joint}
        rows.append((one, other))
    return tuple(rows)


def halved_told(ends):
    """The joining by halves by what is told of it."""
    rows = []

    def cut(some, by_x):
        if len(some) == 1:
            return some[0]
        if by_x:
            order = sorted(some, key=lambda end: (ends[end][0], ends[end][1], end))
        else:
            order = sorted(some, key=lambda end: (ends[end][1], ends[end][0], end))
        first = order[:-(-len(order) // 2)]
        knots = [cut(part, not by_x) for part in (first, order[len(first):])]
        rows.append(tuple(knots))
        return len(ends) + len(rows) - 1

    cut(list(range(len(ends))), True)
    return tuple(rows)


def many_ends(seed):
    """Ends of each number, of several kinds."""
    chance = random.Random(seed)
    for many in range(1, 25):
        for wide, starts in ((1, 0), (3, 0), (3, 2), (9, 9), (40, 0), (0, 3), (0, 0), (MILLION, MILLION), (5, MILLION)):
            yield any_ends(chance, many, wide, starts)


class Nearest(unittest.TestCase):

    def told(self, ends):
        joining = ask(self, nearest_joining, ends)
        self.assertEqual(repr(joining), repr(nearest_told(ends)), ends)
        self.assertIs(is_joining(len(ends), joining), True, ends)
        self.assertTrue(all(one < other for one, other in joining), ends)

    def test_one_end(self):
        for start in (0, 5, MILLION):
            tell(self, (), nearest_joining, ((3, 4, start, 6),))

    def test_two_ends(self):
        for ends in (along(0, 5), along(5, 0), along(3, 3), ((0, 0, 9, 1), (1, 0, 0, 7)), (CORNERS[0], CORNERS[-1])):
            tell(self, ((0, 1),), nearest_joining, ends)

    def test_three_and_more(self):
        tell(self, ((1, 2), (0, 3)), nearest_joining, along(0, 5, 6))
        tell(self, ((0, 2), (1, 3)), nearest_joining, along(6, 0, 5))
        # Two pairs of neighbours; then both.
        tell(self, ((2, 3), (0, 1), (4, 5)), nearest_joining, along(0, 2, 9, 10))
        # One end after the other.
        tell(self, ((0, 1), (2, 4), (3, 5)), nearest_joining, along(0, 1, 3, 7))

    def test_ties(self):
        # Every two neighbours are alike far.
        tell(self, ((0, 1), (2, 3), (4, 5)), nearest_joining, along(0, 1, 2, 3))
        tell(self, ((0, 1), (2, 3)), nearest_joining, along(0, 1, 2))
        tell(self, ((0, 2), (1, 3)), nearest_joining, along(0, 2, 1))
        tell(self, ((0, 2), (1, 3), (4, 5)), nearest_joining, along(0, 5, 1, 6))
        tell(self, ((0, 3), (1, 2), (4, 5)), nearest_joining, along(0, 5, 6, 1))
        # The pair (0, 4) wants as much as (1, 2): what comes first is the pair, not its second knot.
        tell(self, ((0, 4), (1, 2), (3, 6), (5, 7)), nearest_joining, along(0, 50, 51, 40, 1))
        # A square, and one whose corners come in another order.
        tell(self, ((0, 1), (2, 3), (4, 5)), nearest_joining, at((0, 0), (0, 1), (1, 0), (1, 1)))
        tell(self, ((0, 2), (1, 3), (4, 5)), nearest_joining, at((0, 0), (1, 1), (0, 1), (1, 0)))

    def test_ends_at_one_place(self):
        tell(self, ((0, 1), (2, 3), (4, 5)), nearest_joining, ((7, 7, 0, 0),) * 4)
        tell(self, ((0, 1), (2, 3), (4, 5), (6, 7)), nearest_joining, ((7, 7, 3, 0),) * 5)
        # The least starts first; what is joined is as high as its highest.
        tell(self, ((2, 3), (1, 4), (0, 5)), nearest_joining, ((7, 7, 9, 0), (7, 7, 5, 0), (7, 7, 2, 0), (7, 7, 1, 0)))
        for many in range(1, 25):
            self.told(((-3, 8, 0, 0),) * many)
            self.told(tuple((-3, 8, end % 3, 0) for end in range(many)))

    def test_starts_greater_than_any_way(self):
        # Near to each other, but both high: those far off are joined first.
        ends = ((0, 0, 100, 0), (1, 0, 100, 0), (20, 0, 0, 0), (-20, 0, 0, 0))
        tell(self, ((2, 3), (0, 4), (1, 5)), nearest_joining, ends)
        chance = random.Random(141)
        for turn in range(40):
            self.told(any_ends(chance, chance.randint(2, 12), 3, 500))

    def test_a_high_end_beside_low_ones(self):
        # Of the end alone twice its start: with a nearer one it wants no more than that.
        ends = ((0, 0, 6, 0), (2, 0, 0, 0), (13, 0, 0, 0), (1, 0, 0, 0))
        self.told(ends)
        tell(self, ((1, 3), (2, 4), (0, 5)), nearest_joining, ((0, 0, 7, 0), (2, 0, 0, 0), (13, 0, 0, 0), (1, 0, 0, 0)))

    def test_many(self):
        for ends in many_ends(142):
            self.told(ends)

    def test_24_ends_at_the_bounds(self):
        chance = random.Random(143)
        self.told(CORNERS * 3)
        self.told(tuple(sorted(CORNERS * 3)))
        self.told(any_ends(chance, 24, MILLION, 0))
        self.told(any_ends(chance, 24, MILLION, MILLION))

    def test_loads_are_nothing_to_it(self):
        chance = random.Random(144)
        ends = any_ends(chance, 12)
        other = tuple((x, y, start, MILLION - load) for x, y, start, load in ends)
        self.assertEqual(nearest_joining(ends), nearest_joining(other))


class Halved(unittest.TestCase):

    def told(self, ends):
        joining = ask(self, halved_joining, ends)
        self.assertEqual(repr(joining), repr(halved_told(ends)), ends)
        self.assertIs(is_joining(len(ends), joining), True, ends)

    def test_one_end(self):
        for start in (0, 5, MILLION):
            tell(self, (), halved_joining, ((3, 4, start, 6),))

    def test_two_ends(self):
        tell(self, ((0, 1),), halved_joining, at((0, 9), (1, 0)))
        tell(self, ((1, 0),), halved_joining, at((1, 0), (0, 9)))
        # Of one column: by y, then by number.
        tell(self, ((1, 0),), halved_joining, at((4, 5), (4, 2)))
        tell(self, ((0, 1),), halved_joining, at((4, 2), (4, 5)))
        tell(self, ((0, 1),), halved_joining, at((4, 2), (4, 2)))

    def test_three_ends(self):
        # The first part has two of them, put in order by y.
        tell(self, ((0, 1), (3, 2)), halved_joining, at((0, 0), (1, 1), (2, 2)))
        tell(self, ((1, 0), (3, 2)), halved_joining, at((0, 7), (1, 1), (2, 2)))
        tell(self, ((2, 1), (3, 0)), halved_joining, at((9, 0), (1, 1), (2, 0)))
        # In one row of the first part: by x, then by number.
        tell(self, ((2, 0), (3, 1)), halved_joining, at((5, 4), (6, 4), (3, 4)))
        tell(self, ((0, 2), (3, 1)), halved_joining, at((3, 4), (6, 4), (3, 4)))

    def test_four_ends(self):
        tell(self, ((0, 1), (2, 3), (4, 5)), halved_joining, at((0, 0), (0, 1), (1, 0), (1, 1)))
        tell(self, ((0, 2), (1, 3), (4, 5)), halved_joining, at((0, 0), (1, 0), (0, 1), (1, 1)))
        tell(self, ((3, 0), (2, 1), (4, 5)), halved_joining, at((1, 8), (2, 9), (3, 6), (0, 7)))

    def test_by_turns(self):
        # The third cut goes by x again: of the ends 0 to 3 these two parts have y 0 and y 1.
        ends = at((3, 0), (1, 0), (0, 1), (2, 1), (13, 0), (11, 0), (10, 1), (12, 1))
        tell(self, ((1, 0), (2, 3), (8, 9), (5, 4), (6, 7), (11, 12), (10, 13)), halved_joining, ends)

    def test_odd_numbers_at_each_cut(self):
        # 7 are 4 and 3; 3 are 2 and 1.
        tell(self, ((0, 1), (2, 3), (7, 8), (4, 5), (10, 6), (9, 11)), halved_joining,
             at((0, 0), (1, 0), (2, 1), (3, 1), (4, 0), (5, 1), (6, 2)))
        # 5 are 3 and 2, and 3 are 2 and 1.
        tell(self, ((0, 1), (5, 2), (3, 4), (6, 7)), halved_joining, at((0, 0), (1, 1), (2, 2), (3, 3), (4, 4)))

    def test_ends_at_one_place(self):
        tell(self, ((0, 1), (2, 3), (4, 5)), halved_joining, ((7, 7, 0, 0),) * 4)
        tell(self, ((0, 1), (5, 2), (3, 4), (6, 7)), halved_joining, ((7, 7, 3, 0),) * 5)
        for many in range(1, 25):
            self.told(((-3, 8, 0, 0),) * many)

    def test_every_order_of_five(self):
        places = ((0, 3), (0, 1), (2, 1), (2, 1), (1, 3))
        for order in itertools.permutations(places):
            self.told(at(*order))

    def test_each_grid(self):
        # Whatever goes by x, y or number alone is another one here.
        chance = random.Random(151)
        for wide, high in ((1, 24), (24, 1), (2, 12), (12, 2), (4, 6), (3, 8), (5, 5)):
            places = [(x, y) for x in range(wide) for y in range(high)][:24]
            for turn in range(4):
                chance.shuffle(places)
                self.told(at(*places))

    def test_many(self):
        for ends in many_ends(152):
            self.told(ends)

    def test_24_ends_at_the_bounds(self):
        chance = random.Random(153)
        self.told(CORNERS * 3)
        self.told(any_ends(chance, 24, MILLION, MILLION))

    def test_starts_and_loads_are_nothing_to_it(self):
        chance = random.Random(154)
        for many in (3, 8, 24):
            ends = any_ends(chance, many, 4)
            other = tuple((x, y, MILLION - start, MILLION - load) for x, y, start, load in ends)
            self.assertEqual(halved_joining(ends), halved_joining(other))


if __name__ == "__main__":
    unittest.main()
