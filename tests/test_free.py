"""The free wire and the free tree: point 17."""

import itertools
import random
import unittest

from evenwires.free import free_tree, free_wire
from evenwires.trees import tree_holds
from tests.helpers import (
    above_each, any_ends, any_joining, ask, chain_joining, exchanged, laid_down, one_way_joinings, reordered,
    sides_exchanged, tell)

MILLION = 10 ** 6


def stretches_told(ends, joining, side):
    """The stretch of each knot and the cost of all, case by case."""
    found = [(end[side], end[side]) for end in ends]
    cost = 0
    for one, other in joining:
        lower, upper = sorted((found[one], found[other]), key=lambda stretch: stretch[1])
        if upper[0] > lower[1]:
            found.append((lower[1], upper[0]))
            cost += upper[0] - lower[1]
        else:
            found.append((max(lower[0], upper[0]), lower[1]))
    return found, cost


def tree_told(ends, joining):
    """The free tree by what is told of it."""
    across, along = [stretches_told(ends, joining, side)[0] for side in (0, 1)]
    boxes = [x + y for x, y in zip(across, along)]
    spots = tuple((x + y, x - y) for x, y in laid_down(len(ends), joining, boxes))
    lengths = tuple(max(abs(spots[knot][0] - spots[joint][0]), abs(spots[knot][1] - spots[joint][1]))
                    for knot, joint in enumerate(above_each(len(ends), joining)))
    return 1, spots, lengths


def least_of_all(ends, joining, grain):
    """The least wire, in grains, of all trees of a small field, spot by spot."""
    us = [grain * (x + y) for x, y, start, load in ends]
    vs = [grain * (x - y) for x, y, start, load in ends]
    field = list(itertools.product(range(min(us), max(us) + 1), range(min(vs), max(vs) + 1)))
    wires = [{spot: 0} for spot in zip(us, vs)]
    for one, other in joining:
        wires.append({spot: nearest_wire(wires[one], spot) + nearest_wire(wires[other], spot) for spot in field})
    return min(wires[-1].values())


def nearest_wire(wires, spot):
    """The least wire up to a spot of one more wire over such ones."""
    return min(wire + max(abs(u - spot[0]), abs(v - spot[1])) for (u, v), wire in wires.items())


class Free(unittest.TestCase):

    def told(self, ends, joining):
        cost = sum(stretches_told(ends, joining, side)[1] for side in (0, 1))
        tell(self, cost, free_wire, ends, joining)
        tree = ask(self, free_tree, ends, joining)
        self.assertEqual(repr(tree), repr(tree_told(ends, joining)), (ends, joining))
        self.assertIs(tree_holds(ends, joining, None, tree), True, (ends, joining))
        self.assertEqual(sum(tree[2]), cost, (ends, joining))

    def test_one_end(self):
        tell(self, 0, free_wire, ((3, 4, 5, 6),), ())
        tell(self, (1, ((7, -1),), ()), free_tree, ((3, 4, 5, 6),), ())

    def test_two_ends(self):
        for joining in (((0, 1),), ((1, 0),)):
            tell(self, 7, free_wire, ((0, 0, 0, 0), (3, -4, 0, 0)), joining)
            # The root at (0, -4), a place of neither end.
            tell(self, (1, ((0, 0), (-1, 7), (-4, 4)), (4, 3)), free_tree, ((0, 0, 0, 0), (3, -4, 0, 0)), joining)
            tell(self, 0, free_wire, ((1, 2, 0, 0), (1, 2, 5, 0)), joining)
            tell(self, (1, ((3, -1),) * 3, (0, 0)), free_tree, ((1, 2, 0, 0), (1, 2, 5, 0)), joining)

    def on_a_line(self, places, joining, want):
        for side in (0, 1):
            ends = tuple((7, 7, 0, 0) for place in places)
            ends = tuple(exchanged(end, side, place) for end, place in zip(ends, places))
            tell(self, want, free_wire, ends, joining)
            self.told(ends, joining)
            mirrored = tuple(exchanged(end, side, -end[side]) for end in ends)
            tell(self, want, free_wire, mirrored, joining)
            self.told(mirrored, joining)

    def test_stretches_that_lie_apart(self):
        # (0, 2) and (5, 9): from 2 to 5.
        self.on_a_line((0, 2, 5, 9), ((0, 1), (2, 3), (4, 5)), 2 + 4 + 3)
        self.on_a_line((0, 2, 5, 9), ((0, 1), (2, 3), (5, 4)), 2 + 4 + 3)
        # And 0 to that, which lies before it; 4, which lies in it.
        self.on_a_line((0, 2, 5, 9, 0), ((0, 1), (2, 3), (5, 6), (7, 4)), 2 + 4 + 3 + 2)
        self.on_a_line((0, 2, 5, 9, 4), ((0, 1), (2, 3), (5, 6), (7, 4)), 2 + 4 + 3)

    def test_stretches_that_touch(self):
        # (0, 4) and (4, 9): just 4.
        self.on_a_line((0, 4, 4, 9), ((0, 1), (2, 3), (4, 5)), 4 + 5)
        self.on_a_line((0, 4, 4, 9, 6), ((0, 1), (2, 3), (5, 6), (7, 4)), 4 + 5 + 2)

    def test_stretches_that_meet(self):
        # (0, 6) and (4, 9): from 4 to 6; one within the other.
        self.on_a_line((0, 6, 4, 9), ((0, 1), (2, 3), (4, 5)), 6 + 5)
        self.on_a_line((0, 6, 4, 9, 5), ((0, 1), (2, 3), (5, 6), (7, 4)), 6 + 5)
        self.on_a_line((0, 6, 4, 9, 7), ((0, 1), (2, 3), (5, 6), (7, 4)), 6 + 5 + 1)
        self.on_a_line((0, 9, 4, 6, 3), ((0, 1), (2, 3), (5, 6), (7, 4)), 9 + 2 + 1)

    def test_ends_at_one_place(self):
        for many in (2, 3, 5, 24):
            ends = tuple((2, 1, end, 0) for end in range(many))
            for joining in (chain_joining(many), chain_joining(many, True)):
                tell(self, 0, free_wire, ends, joining)
                tell(self, (1, ((3, 1),) * (2 * many - 1), (0,) * (2 * many - 2)), free_tree, ends, joining)

    def test_columns_and_rows_are_apart(self):
        # In the columns the sides meet, in the rows they lie apart.
        self.told(((0, 0, 0, 0), (9, 0, 0, 0), (4, 5, 0, 0), (6, 5, 0, 0)), ((0, 1), (2, 3), (4, 5)))
        tell(self, 9 + 2 + 5, free_wire, ((0, 0, 0, 0), (9, 0, 0, 0), (4, 5, 0, 0), (6, 5, 0, 0)),
             ((0, 1), (2, 3), (4, 5)))

    def test_no_tree_of_a_small_field_has_less(self):
        chance = random.Random(101)
        for many in (2, 3, 4):
            for turn in range(8):
                ends = any_ends(chance, many, 2 if many < 4 else 1, 3)
                joining = any_joining(chance, many)
                for grain in (1, 2):
                    # Between places there are spots of no place: they bring nothing.
                    self.assertEqual(grain * free_wire(ends, joining), least_of_all(ends, joining, grain))

    def test_every_joining_of_five(self):
        for ends in (((0, 0, 0, 0), (3, 1, 2, 0), (-2, 4, 0, 0), (1, 1, 9, 0), (2, -3, 0, 0)),
                     ((0, 0, 0, 0), (1, 1, 0, 0), (2, 2, 0, 0), (3, 3, 0, 0), (4, 4, 0, 0))):
            for joining in one_way_joinings(5):
                self.told(ends, joining)

    def test_many(self):
        chance = random.Random(102)
        for many in range(1, 25):
            for wide in (2, 9, MILLION):
                self.told(any_ends(chance, many, wide, 9), any_joining(chance, many))

    def test_at_the_bounds(self):
        corners = tuple((x, y, MILLION, 1) for x in (-MILLION, MILLION) for y in (-MILLION, MILLION)) * 6
        for joining in (chain_joining(24), chain_joining(24, True)):
            self.told(corners, joining)
        tell(self, 4 * MILLION, free_wire, corners[:1] + corners[3:4], ((0, 1),))

    def test_sides_and_orders(self):
        chance = random.Random(103)
        for many in (4, 24):
            ends = any_ends(chance, many, 30, 9)
            joining = any_joining(chance, many)
            want = free_wire(ends, joining)
            for turn in range(8):
                other, numbers = reordered(chance, many, joining)
                other = sides_exchanged(other, [chance.random() < 0.5 for row in other])
                tell(self, want, free_wire, ends, other)
                # Each knot stands where it stood.
                spots = free_tree(ends, joining)[1]
                self.assertEqual([free_tree(ends, other)[1][number] for number in numbers], list(spots))

    def test_starts_and_loads_are_nothing_to_it(self):
        chance = random.Random(104)
        ends = any_ends(chance, 9)
        joining = any_joining(chance, 9)
        other = tuple((x, y, start + 1000, load + 77) for x, y, start, load in ends)
        self.assertEqual(free_wire(ends, joining), free_wire(other, joining))
        self.assertEqual(free_tree(ends, joining), free_tree(other, joining))


if __name__ == "__main__":
    unittest.main()
