"""The whole: points 1 to 3, where what one module tells rests on what another one shows."""

import fractions
import random
import unittest

from evenwires.best import best_joining
from evenwires.desk import Desk
from evenwires.ends import is_joining
from evenwires.even import even_tree, even_wire
from evenwires.fitting import boxes_by, fits, laid
from evenwires.found import halved_joining, nearest_joining
from evenwires.free import free_tree, free_wire
from evenwires.groves import Grove
from evenwires.layers import layers_for, layers_shown
from evenwires.least import least
from evenwires.loads import borne, loads_of
from evenwires.pairs import pairs_for, pairs_shown
from evenwires.rows import rows_of
from evenwires.tables import table_shown
from evenwires.texts import read_tree, read_wires, show_tree, show_wires
from evenwires.times import times_shown
from evenwires.trees import tree_holds, wire_of
from tests.helpers import any_ends, any_joining, as_pair, chain_joining

MILLION = 10 ** 6
CORNERS = tuple((x, y, start, 1) for x in (-MILLION, MILLION) for y in (-MILLION, MILLION) for start in (0, MILLION))
NAMES = tuple("abcdefghijklmnopqrstuvwx")


def all_ends(seed):
    """Ends of each number, of several kinds."""
    chance = random.Random(seed)
    for many in range(1, 25):
        for wide, starts in ((9, 0), (9, 9), (MILLION, MILLION)):
            yield any_ends(chance, many, wide, starts)
    yield CORNERS * 3
    yield ((0, 0, 0, 0),) * 24


def joinings_of(chance, ends):
    """Some joinings of the ends, all that are found among them."""
    found = [nearest_joining(ends), halved_joining(ends), any_joining(chance, len(ends)), chain_joining(len(ends))]
    return found + ([best_joining(ends)[0]] if len(ends) <= 7 else [])


def grow(grove_like, ends, joining):
    """The same ends and joining made in a grove, or by a desk: each end, as it is numbered, beside one before it."""
    many = len(ends)
    beneath = [{end} for end in range(many)]
    for one, other in joining:
        beneath.append(beneath[one] | beneath[other])
    for end in range(many):
        if end == 0:
            grove_like(NAMES[0], *ends[0])
            continue
        # Of those that are there the joint above the new end joins it with just those beneath its other sides.
        there = set(range(end))
        joint = min((knot for knot in range(many, 2 * many - 1) if end in beneath[knot] and beneath[knot] & there),
                    key=lambda knot: len(beneath[knot]))
        others = beneath[joint] & there
        beside = min(others)
        sizes = sorted({len(beneath[knot] & there) for knot in range(2 * many - 1)
                        if beside in beneath[knot] and beneath[knot] & there <= others})
        grove_like(NAMES[end], *ends[end], NAMES[beside], len(sizes) - 1)


def sides_as_sets(many, joining):
    """The ends beneath each knot, as a set: what a joining is but for sides and numbers."""
    beneath = [frozenset([end]) for end in range(many)]
    for one, other in joining:
        beneath.append(beneath[one] | beneath[other])
    return frozenset(beneath)


class Whole(unittest.TestCase):

    def test_an_even_tree_as_a_paper_of_pairs_shows(self):
        chance = random.Random(271)
        for ends in all_ends(272):
            for joining in joinings_of(chance, ends):
                self.assertTrue(is_joining(len(ends), joining))
                tree = even_tree(ends, joining)
                self.assertTrue(tree_holds(ends, joining, 0, tree))
                wire = wire_of(tree[2])
                self.assertEqual(wire, even_wire(ends, joining))
                self.assertEqual(wire, pairs_shown(ends, joining, pairs_for(ends, joining)))
                # Its lengths fit, and each joint stands in the box that they leave it.
                self.assertTrue(fits(ends, joining, 2, tree[2]))
                boxes = boxes_by(ends, joining, 2, tree[2])
                self.assertEqual([height_and_box[1] for height_and_box in rows_of(ends, joining)], list(boxes))
                self.assertEqual(laid(ends, joining, 2, tree[2]), tree)

    def test_bounds_of_all_joinings(self):
        chance = random.Random(273)
        for ends in all_ends(274):
            bound = layers_shown(ends, layers_for(ends))
            self.assertIsNotNone(bound)
            wires = [even_wire(ends, joining) for joining in joinings_of(chance, ends)]
            self.assertLessEqual(bound, min(wires))
            if len(ends) <= 7:
                joining, table = best_joining(ends)
                self.assertEqual(table_shown(ends, table), even_wire(ends, joining))
                self.assertEqual(min(wires), even_wire(ends, joining))

    def test_within_a_gap(self):
        chance = random.Random(275)
        for turn in range(12):
            ends = any_ends(chance, chance.randint(1, 5), 9, (0, 9, 40)[turn % 3])
            for joining in joinings_of(chance, ends):
                wires = []
                for gap in (0, 2, 9, None):
                    tree, paper = least(ends, joining, gap)
                    self.assertTrue(tree_holds(ends, joining, gap, tree))
                    wires.append(fractions.Fraction(wire_of(tree[2]), tree[0]))
                    self.assertEqual(times_shown(ends, joining, gap, paper), as_pair(wires[-1]))
                self.assertEqual(2 * wires[0], even_wire(ends, joining))
                self.assertEqual(wires[-1], free_wire(ends, joining))

    def test_free_trees(self):
        chance = random.Random(276)
        for ends in all_ends(277):
            joining = any_joining(chance, len(ends))
            tree = free_tree(ends, joining)
            self.assertTrue(tree_holds(ends, joining, None, tree))
            self.assertEqual(wire_of(tree[2]), free_wire(ends, joining))
            self.assertLessEqual(2 * free_wire(ends, joining), even_wire(ends, joining))

    def test_texts_are_read_back(self):
        chance = random.Random(278)
        for ends in all_ends(279):
            for joining in joinings_of(chance, ends):
                self.assertEqual(read_wires(show_wires(ends, joining)), (ends, joining))
                trees = [even_tree(ends, joining), free_tree(ends, joining)]
                if len(ends) <= 4:
                    trees += [least(ends, joining, gap)[0] for gap in (0, 3, None)]
                for tree in trees:
                    self.assertEqual(read_tree(show_tree(tree)), tree)

    def test_a_grove_and_a_desk_tell_what_is_told_at_once(self):
        chance = random.Random(280)
        for ends in all_ends(281):
            joining = any_joining(chance, len(ends))
            grove, desk = Grove(), Desk()
            grow(grove.come, ends, joining)
            grow(lambda *words: desk.say(" ".join(["come"] + [str(word) for word in words])), ends, joining)
            told_ends, told = grove.now()
            self.assertEqual(told_ends, ends)
            self.assertEqual(sides_as_sets(len(ends), told), sides_as_sets(len(ends), joining))
            # But for sides and numbers it is the same joining, so that its wires are the same.
            self.assertEqual(desk.say("text"), show_wires(ends, told))
            self.assertEqual(desk.say("wire"), str(even_wire(ends, joining)))
            self.assertEqual(desk.say("free"), str(free_wire(ends, joining)))
            self.assertEqual(read_tree(desk.say("tree")), even_tree(ends, told))

    def test_what_even_lengths_bear(self):
        # From each end up to the root its load is borne as far as the root is high.
        chance = random.Random(282)
        for ends in all_ends(283):
            joining = any_joining(chance, len(ends))
            height = rows_of(ends, joining)[-1][0]
            lengths = even_tree(ends, joining)[2]
            want = sum(load * (height - 2 * start) for x, y, start, load in ends)
            self.assertEqual(borne(ends, joining, lengths), want)
            self.assertEqual(loads_of(ends, joining)[-1], sum(end[3] for end in ends))


if __name__ == "__main__":
    unittest.main()
