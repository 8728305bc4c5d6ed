"""The least even wire and the even tree told: point 13, and of point 3 the sentences on even trees."""

import itertools
import random
import unittest

from evenwires.errors import NoPlace, WireError
from evenwires.even import even_tree, even_wire
from evenwires.pairs import pairs_for, pairs_shown
from evenwires.trees import tree_holds
from tests.helpers import (
    above_each, all_joinings, any_ends, any_joining, ask, beneath_each, beside, chain_joining, even_wires, exchanged,
    height_of, laid_down, least_wire, refuse, reordered, sides_exchanged, spot_far, spots_of, spread, tell)

MILLION = 10 ** 6
CORNERS = tuple((x, y, start, 1) for x in (-MILLION, MILLION) for y in (-MILLION, MILLION) for start in (0, MILLION))


def box_of(ends, some):
    """The box of some ends, told apart from the program."""
    height = height_of(ends, some)
    balls = [(2 * (ends[end][0] + ends[end][1]), 2 * (ends[end][0] - ends[end][1]), height - 2 * ends[end][2])
             for end in some]
    return (max(u - by for u, v, by in balls), min(u + by for u, v, by in balls),
            max(v - by for u, v, by in balls), min(v + by for u, v, by in balls))


def tree_told(ends, joining, root=None):
    """The even tree by what is told of it."""
    some = beneath_each(len(ends), joining)
    boxes = [box_of(ends, beneath) for beneath in some]
    heights = [height_of(ends, beneath) for beneath in some]
    lengths = tuple(heights[joint] - heights[knot] for knot, joint in enumerate(above_each(len(ends), joining)))
    return 2, laid_down(len(ends), joining, boxes, root), lengths


class EvenWire(unittest.TestCase):

    def test_one_end(self):
        for start in (0, 1, 7, MILLION):
            tell(self, 0, even_wire, ((3, -4, start, 2),), ())

    def test_two_ends(self):
        for joining in (((0, 1),), ((1, 0),)):
            tell(self, 0, even_wire, ((1, 2, 0, 0), (1, 2, 0, 0)), joining)
            tell(self, 2, even_wire, ((0, 0, 0, 0), (1, 0, 0, 0)), joining)
            tell(self, 14, even_wire, ((0, 0, 0, 0), (3, -4, 0, 0)), joining)
            # The start takes some of the way, all of it, more than it: then the wire is longer than the way.
            tell(self, 14, even_wire, ((0, 0, 2, 0), (3, -4, 0, 0)), joining)
            tell(self, 14, even_wire, ((0, 0, 7, 0), (3, -4, 0, 0)), joining)
            tell(self, 16, even_wire, ((0, 0, 8, 0), (3, -4, 0, 0)), joining)
            tell(self, 14, even_wire, ((0, 0, 8, 0), (3, -4, 1, 0)), joining)

    def test_three_ends(self):
        ends = ((0, 0, 0, 0), (4, 0, 2, 0), (1, 1, 0, 0))
        # Heights 2 and 6, 6 once more, less 4.
        tell(self, 10, even_wire, ends, ((0, 2), (3, 1)))
        # Heights 6 and 6.
        tell(self, 14, even_wire, ends, ((0, 1), (3, 2)))
        tell(self, 14, even_wire, ends, ((2, 1), (3, 0)))

    def test_against_all_even_trees(self):
        chance = random.Random(61)
        for many, turns in ((2, 12), (3, 12), (4, 8)):
            for turn in range(turns):
                ends = any_ends(chance, many, 1, (0, 1, 3)[turn % 3])
                joining = any_joining(chance, many)
                tell(self, min(even_wires(ends, joining)[-1].values()), even_wire, ends, joining)

    def test_every_joining_of_three_against_all_even_trees(self):
        for ends in (((0, 0, 0, 0), (2, 0, 1, 0), (1, 1, 0, 0)), ((0, 0, 2, 0), (0, 1, 0, 0), (1, 0, 0, 0))):
            for joining in all_joinings(3):
                tell(self, min(even_wires(ends, joining)[-1].values()), even_wire, ends, joining)

    def test_by_heights(self):
        chance = random.Random(62)
        for many in range(1, 25):
            for wide, starts in ((6, 0), (6, 9), (MILLION, MILLION), (9, MILLION), (0, 5)):
                ends = any_ends(chance, many, wide, starts)
                joining = any_joining(chance, many)
                tell(self, least_wire(ends, joining), even_wire, ends, joining)

    def test_sides_exchanged(self):
        chance = random.Random(63)
        ends = any_ends(chance, 4)
        for joining in (((0, 1), (2, 3), (4, 5)), ((3, 1), (0, 4), (5, 2))):
            want = even_wire(ends, joining)
            for which in itertools.product((False, True), repeat=3):
                tell(self, want, even_wire, ends, sides_exchanged(joining, which))

    def test_rows_in_another_order(self):
        chance = random.Random(64)
        for many in (4, 7, 24):
            ends = any_ends(chance, many, 30, 9)
            joining = any_joining(chance, many)
            want = even_wire(ends, joining)
            for turn in range(8):
                other, numbers = reordered(chance, many, joining)
                tell(self, want, even_wire, ends, other)
                which = [chance.random() < 0.5 for row in other]
                tell(self, want, even_wire, ends, sides_exchanged(other, which))

    def test_at_the_bounds(self):
        tell(self, 8 * MILLION, even_wire, (CORNERS[0], CORNERS[-2]), ((0, 1),))
        tell(self, 0, even_wire, (CORNERS[1],) * 24, chain_joining(24))
        ends = CORNERS * 3
        for joining in (chain_joining(24), chain_joining(24, True)):
            tell(self, least_wire(ends, joining), even_wire, ends, joining)

    def test_loads_are_nothing_to_it(self):
        chance = random.Random(65)
        ends = any_ends(chance, 9)
        joining = any_joining(chance, 9)
        other = tuple(exchanged(end, 3, end[3] + 1000) for end in ends)
        self.assertEqual(even_wire(ends, joining), even_wire(other, joining))
        self.assertEqual(even_tree(ends, joining), even_tree(other, joining))


class EvenTree(unittest.TestCase):

    def holds(self, ends, joining, tree):
        """An even tree of just the least even wire, and a paper that shows this."""
        grain, spots, lengths = tree
        self.assertEqual(grain, 2)
        self.assertIs(tree_holds(ends, joining, 0, tree), True, (ends, joining))
        self.assertEqual(spread(ends, joining, grain, lengths), 0)
        self.assertEqual(sum(lengths), least_wire(ends, joining))
        self.assertEqual(sum(lengths), even_wire(ends, joining))
        self.assertEqual(pairs_shown(ends, joining, pairs_for(ends, joining)), sum(lengths))

    def told(self, ends, joining):
        tree = ask(self, even_tree, ends, joining)
        self.assertEqual(repr(tree), repr(tree_told(ends, joining)), (ends, joining))
        self.assertEqual(tree, even_tree(ends, joining, None))
        self.holds(ends, joining, tree)

    def told_at(self, ends, joining, root):
        tree = ask(self, even_tree, ends, joining, root)
        self.assertEqual(repr(tree), repr(tree_told(ends, joining, root)), (ends, joining, root))
        self.assertEqual(tree[1][-1], root)
        self.holds(ends, joining, tree)

    def test_one_end(self):
        ends = ((3, 4, 5, 6),)
        tell(self, (2, ((14, -2),), ()), even_tree, ends, ())
        tell(self, (2, ((14, -2),), ()), even_tree, ends, (), None)
        tell(self, (2, ((14, -2),), ()), even_tree, ends, (), (14, -2))
        for spot in beside((14, 14, -2, -2)) + [(7, -1), (3, 4), (0, 0)]:
            refuse(self, NoPlace, even_tree, ends, (), spot)

    def test_two_ends(self):
        ends = ((0, 0, 0, 0), (1, 1, 0, 0))
        for joining in (((0, 1),), ((1, 0),)):
            tell(self, (2, ((0, 0), (4, 0), (2, -2)), (2, 2)), even_tree, ends, joining)
            tell(self, (2, ((0, 0), (4, 0), (2, 1)), (2, 2)), even_tree, ends, joining, (2, 1))
            tell(self, (2, ((0, 0), (2, 2), (1, 1)), (1, 1)), even_tree, ((0, 0, 0, 0), (1, 0, 0, 0)), joining)
            # The start 9 is more than the way: all wire, and 7 steps more, lies on the other side.
            tell(self, (2, ((0, 0), (4, 0), (0, 0)), (0, 18)), even_tree, ((0, 0, 9, 0), (1, 1, 0, 0)), joining)

    def test_four_ends(self):
        ends = ((0, 0, 0, 0), (1, 1, 0, 0), (4, 4, 0, 0), (5, 5, 0, 0))
        tree = (2, ((0, 0), (4, 0), (16, 0), (20, 0), (2, -2), (18, -2), (10, -10)), (2, 2, 2, 2, 8, 8))
        tell(self, tree, even_tree, ends, ((0, 1), (2, 3), (4, 5)))
        # Told in the middle of its stretch, both joints stand there too.
        tree = (2, ((0, 0), (4, 0), (16, 0), (20, 0), (2, 1), (18, 1), (10, 1)), (2, 2, 2, 2, 8, 8))
        tell(self, tree, even_tree, ends, ((0, 1), (2, 3), (4, 5)), (10, 1))

    def test_the_root_at_nought(self):
        # The spot (0, 0) is told, and isn't the first corner.
        ends = ((1, 1, 0, 0), (-1, -1, 0, 0))
        tell(self, (2, ((4, 0), (-4, 0), (0, -4)), (4, 4)), even_tree, ends, ((0, 1),))
        tell(self, (2, ((4, 0), (-4, 0), (0, 0)), (4, 4)), even_tree, ends, ((0, 1),), (0, 0))

    def test_many_trees(self):
        chance = random.Random(66)
        for many in range(1, 25):
            for wide, starts in ((6, 0), (6, 9), (MILLION, MILLION), (30, 0), (0, 5)):
                self.told(any_ends(chance, many, wide, starts), any_joining(chance, many))

    def test_every_joining_of_four(self):
        for ends in (((0, 0, 0, 0), (3, 1, 2, 0), (-2, 4, 0, 0), (1, 1, 9, 0)),
                     ((0, 0, 0, 0), (5, 5, 0, 0), (1, 2, 1, 0), (4, 0, 0, 0))):
            for joining in all_joinings(4):
                self.told(ends, joining)

    def test_each_spot_of_the_roots_box(self):
        chance = random.Random(67)
        wide = 0
        for turn in range(60):
            many = chance.choice((2, 3, 4, 6))
            ends = any_ends(chance, many, 3, chance.choice((0, 0, 1, 4)))
            joining = any_joining(chance, many)
            box = box_of(ends, range(many))
            wide = max(wide, len(spots_of(box)))
            for spot in spots_of(box):
                self.told_at(ends, joining, spot)
            for spot in beside(box):
                refuse(self, NoPlace, even_tree, ends, joining, spot)
        self.assertGreater(wide, 8)

    def test_the_roots_of_all_least_even_trees(self):
        # Of the trees gone through those of least wire have their root just where one may be told.
        chance = random.Random(68)
        for turn in range(6):
            ends = any_ends(chance, 3, 1, turn % 2)
            joining = any_joining(chance, 3)
            wires = even_wires(ends, joining)[-1]
            least = min(wires.values())
            stands = {spot for (spot, reach) in wires if wires[(spot, reach)] == least}
            for spot in {spot for (spot, reach) in wires}:
                if spot in stands:
                    self.told_at(ends, joining, spot)
                else:
                    refuse(self, NoPlace, even_tree, ends, joining, spot)

    def test_the_corners_of_great_boxes(self):
        for ends in ((CORNERS[0], CORNERS[-2]), (CORNERS[2], CORNERS[4])):
            box = box_of(ends, (0, 1))
            for root in itertools.product(box[:2], box[2:]):
                self.told_at(ends, ((0, 1),), root)
            for root in beside(box):
                refuse(self, NoPlace, even_tree, ends, ((0, 1),), root)

    def test_24_ends_with_a_told_root(self):
        chance = random.Random(69)
        for joining in (chain_joining(24), chain_joining(24, True), any_joining(chance, 24)):
            for ends in (any_ends(chance, 24, MILLION, 0), CORNERS * 3, any_ends(chance, 24, 9, 0)):
                low_u, high_u, low_v, high_v = box = box_of(ends, range(24))
                for root in {(low_u, low_v), (high_u, high_v), ((low_u + high_u) // 2, (low_v + high_v) // 2)}:
                    self.told_at(ends, joining, root)
                for root in beside(box):
                    refuse(self, NoPlace, even_tree, ends, joining, root)

    def test_each_joint_stands_as_near_as_it_may(self):
        chance = random.Random(70)
        for turn in range(20):
            ends = any_ends(chance, 5, 4, 0)
            joining = any_joining(chance, 5)
            spots = ask(self, even_tree, ends, joining)[1]
            above = above_each(5, joining)
            some = beneath_each(5, joining)
            for knot in range(5, 8):
                u, v = spots[above[knot]]
                height = height_of(ends, some[knot])
                near = [(abs(u - a), abs(v - b)) for a, b in spots_of(box_of(ends, some[knot]))]
                a, b = spots[knot]
                self.assertEqual((abs(u - a), abs(v - b)), (min(x for x, y in near), min(y for x, y in near)))
                for end in some[knot]:
                    self.assertLessEqual(spot_far((a, b), ends[end]), height)

    def test_the_refusal(self):
        with self.assertRaises(WireError):
            even_tree(((0, 0, 0, 0),), (), (1, 0))


if __name__ == "__main__":
    unittest.main()
