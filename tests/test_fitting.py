"""Wires of told lengths: points 15 and 16, and of point 3 the sentence on them."""

import itertools
import random
import unittest

from evenwires.errors import NoFit, NoPlace
from evenwires.even import even_tree
from evenwires.fitting import boxes_by, fits, laid
from evenwires.rows import rows_of
from evenwires.trees import tree_holds
from tests.helpers import (
    any_ends, any_joining, ask, beneath_each, beside, chain_joining, exchanged, field_about, finer, laid_down,
    one_way_joinings, refuse, short_pairs, spots_of, tell, way_up)

MILLION = 10 ** 6
CORNERS = tuple((x, y, start, 1) for x in (-MILLION, MILLION) for y in (-MILLION, MILLION) for start in (0, MILLION))

ENDS = ((0, 0, 0, 1), (4, 0, 2, 1), (1, 1, 0, 1))
JOINING = ((0, 2), (3, 1))


def balls_met(ends, joining, grain, lengths):
    """For each knot the box of all spots that the wires from each end beneath it come to."""
    many = len(ends)
    boxes = []
    for knot, some in enumerate(beneath_each(many, joining)):
        balls = []
        for end in some:
            up = way_up(many, joining, end)
            wire = sum(lengths[below] for below in up[:up.index(knot)])
            balls.append((grain * (ends[end][0] + ends[end][1]), grain * (ends[end][0] - ends[end][1]), wire))
        boxes.append((max(u - by for u, v, by in balls), min(u + by for u, v, by in balls),
                      max(v - by for u, v, by in balls), min(v + by for u, v, by in balls)))
    return tuple(boxes)


def places_to_stand(ends, joining, grain, lengths):
    """For each knot all spots at which it may stand over what is beneath it, gone through one by one."""
    found = [{(grain * (x + y), grain * (x - y))} for x, y, start, load in ends]
    for one, other in joining:
        found.append(come_to(found[one], lengths[one]) & come_to(found[other], lengths[other]))
    return found


def come_to(spots, length):
    """All spots to which a wire of this length comes from one of the spots."""
    steps = range(-length, length + 1)
    return {(u + a, v + b) for u, v in spots for a in steps for b in steps}


def lengths_about(chance, ends, joining, grain):
    """Lengths that just fit or just do not: those of an even tree, some of them a little changed."""
    lengths = list(even_tree(ends, joining)[2])
    lengths = [length * grain // 2 for length in lengths]
    for knot in range(len(lengths)):
        lengths[knot] = max(0, lengths[knot] + chance.choice((0, 0, 0, 1, -1, 2, -3)))
    return tuple(lengths)


class Fitting(unittest.TestCase):

    def fit(self, ends, joining, grain, lengths):
        """They fit: with these boxes, and laid at their corners."""
        self.assertEqual(short_pairs(ends, joining, grain, lengths), [])
        tell(self, True, fits, ends, joining, grain, lengths)
        boxes = balls_met(ends, joining, grain, lengths)
        tell(self, boxes, boxes_by, ends, joining, grain, lengths)
        tree = (grain, laid_down(len(ends), joining, boxes), lengths)
        tell(self, tree, laid, ends, joining, grain, lengths)
        tell(self, tree, laid, ends, joining, grain, lengths, None)
        self.assertIs(tree_holds(ends, joining, None, tree), True, (ends, joining, tree))

    def refused(self, ends, joining, grain, lengths, *root):
        """They do not fit: the first two are told."""
        want = short_pairs(ends, joining, grain, lengths)[0]
        tell(self, False, fits, ends, joining, grain, lengths)
        for function, more in ((boxes_by, ()), (laid, root), (laid, (None,))):
            refuse(self, NoFit, function, ends, joining, grain, lengths, *more)
            with self.assertRaises(NoFit) as caught:
                function(ends, joining, grain, lengths, *more)
            told = (caught.exception.one, caught.exception.other)
            self.assertEqual(repr(told), repr(want), (ends, joining, grain, lengths))

    def whichever(self, ends, joining, grain, lengths):
        """They fit just where no two ends have too little wire between them."""
        if short_pairs(ends, joining, grain, lengths):
            self.refused(ends, joining, grain, lengths)
            return False
        self.fit(ends, joining, grain, lengths)
        return True


class Fits(Fitting):

    def test_one_end(self):
        for grain in (1, 2, 1000):
            ends = ((3, 4, 5, 6),)
            self.fit(ends, (), grain, ())
            tell(self, ((7 * grain, 7 * grain, -grain, -grain),), boxes_by, ends, (), grain, ())

    def test_two_ends(self):
        ends = ((0, 0, 9, 0), (3, 1, 0, 0))
        for joining in (((0, 1),), ((1, 0),)):
            for grain in (1, 2, 1000):
                way = 4 * grain
                for first in (0, 1, grain, way - 1, way, way + 1, 10 ** 10):
                    for second in (way - first - 1, way - first, way - first + 1, 0, 10 ** 10):
                        if second >= 0:
                            self.assertEqual(
                                self.whichever(ends, joining, grain, (first, second)), first + second >= way)

    def test_boxes(self):
        tell(self, ((0, 0, 0, 0), (4, 4, 2, 2), (2, 2, 0, 2)), boxes_by,
             ((0, 0, 0, 0), (3, 1, 0, 0)), ((0, 1),), 1, (2, 2))
        tell(self, ((0, 0, 0, 0), (4, 4, 2, 2), (1, 3, -1, 3)), boxes_by,
             ((0, 0, 0, 0), (3, 1, 0, 0)), ((1, 0),), 1, (3, 3))
        tell(self, ((0, 0, 0, 0), (8, 8, 8, 8), (4, 4, 0, 0), (2, 2, -2, 2), (6, 6, 6, 6)), boxes_by,
             ENDS, JOINING, 2, (2, 2, 2, 4))

    def test_starts_are_nothing_to_it(self):
        for start in (0, 7, MILLION):
            ends = tuple(exchanged(end, 2, start) for end in ENDS)
            self.fit(ends, JOINING, 2, (2, 2, 2, 4))
            self.refused(ends, JOINING, 2, (2, 2, 2, 3))

    def test_ends_at_one_place(self):
        for many in (2, 3, 5, 24):
            ends = ((2, 1, 4, 0),) * many
            for joining in (chain_joining(many), chain_joining(many, True)):
                self.fit(ends, joining, 3, (0,) * (2 * many - 2))
                self.fit(ends, joining, 3, (1,) * (2 * many - 2))

    def test_all_nought(self):
        chance = random.Random(81)
        for many in (2, 3, 6, 24):
            ends = any_ends(chance, many)
            joining = any_joining(chance, many)
            for grain in (1, 2, 1000):
                self.refused(ends, joining, grain, (0,) * (2 * many - 2))
                self.fit(ends[:1] * many, joining, grain, (0,) * (2 * many - 2))

    def test_great_lengths(self):
        chance = random.Random(82)
        for many in (2, 3, 6, 24):
            for wide in (5, MILLION):
                ends = any_ends(chance, many, wide)
                joining = any_joining(chance, many)
                for grain in (1, 2, 1000):
                    self.fit(ends, joining, grain, (10 ** 10,) * (2 * many - 2))

    def test_even_trees(self):
        chance = random.Random(83)
        for many in (1, 2, 3, 5, 12, 24):
            for wide, starts in ((6, 0), (6, 9), (MILLION, MILLION)):
                ends = any_ends(chance, many, wide, starts)
                joining = any_joining(chance, many)
                tree = even_tree(ends, joining)
                self.fit(ends, joining, 2, tree[2])
                # Boxes by an even tree's lengths are those of the rows.
                self.assertEqual(boxes_by(ends, joining, 2, tree[2]), tuple(box for h, box in rows_of(ends, joining)))
                self.assertEqual(laid(ends, joining, 2, tree[2]), tree)
                self.fit(ends, joining, 1000, finer(tree, 500)[2])
                self.whichever(ends, joining, 1, tuple(length // 2 for length in tree[2]))

    def test_one_grain_less_at_each_knot(self):
        chance = random.Random(84)
        short = 0
        for many in (2, 3, 4, 7, 24):
            for by in (1, 500):
                ends = any_ends(chance, many, 9, chance.choice((0, 3)))
                joining = any_joining(chance, many)
                grain, spots, lengths = finer(even_tree(ends, joining), by)
                for knot, length in enumerate(lengths):
                    if length > 0:
                        short += not self.whichever(ends, joining, grain, exchanged(lengths, knot, length - 1))
        self.assertGreater(short, 20)

    def test_just_fitting_or_just_not(self):
        chance = random.Random(85)
        seen = {True: 0, False: 0}
        for turn in range(300):
            many = chance.choice((2, 3, 4, 5, 7))
            ends = any_ends(chance, many, 6, chance.choice((0, 4)))
            joining = any_joining(chance, many)
            grain = chance.choice((1, 2, 3, 1000))
            seen[self.whichever(ends, joining, grain, lengths_about(chance, ends, joining, grain))] += 1
        self.assertGreater(min(seen.values()), 30)

    def test_at_the_bounds(self):
        chance = random.Random(86)
        for joining in (chain_joining(24), chain_joining(24, True), any_joining(chance, 24)):
            ends = CORNERS * 3
            lengths = tuple(500 * length for length in even_tree(ends, joining)[2])
            self.fit(ends, joining, 1000, lengths)
            # One grain less of the longest wire.
            knot = max(range(46), key=lambda knot: lengths[knot])
            self.whichever(ends, joining, 1000, exchanged(lengths, knot, lengths[knot] - 1))

    def test_every_joining_of_four(self):
        chance = random.Random(87)
        ends = ((0, 0, 0, 0), (3, 1, 2, 0), (-2, 4, 0, 0), (1, 1, 3, 0))
        for joining in one_way_joinings(4):
            for turn in range(6):
                self.whichever(ends, joining, 2, lengths_about(chance, ends, joining, 2))


class FirstTwo(Fitting):

    def test_the_first_as_pairs_rise(self):
        # On one line, with one step of wire at each end alone.
        ends = ((0, 0, 0, 0), (2, 0, 0, 0), (-2, 0, 0, 0), (5, 0, 0, 0))
        joining = ((0, 1), (2, 4), (3, 5))
        lengths = (1, 1, 1, 1, 0, 0)
        self.assertEqual(short_pairs(ends, joining, 1, lengths), [(0, 3), (1, 2), (1, 3), (2, 3)])
        # From below up (1, 2) is the first that is met with, as pairs rise it is (0, 3).
        self.refused(ends, joining, 1, lengths)
        self.refused(ends, joining, 1, exchanged(lengths, 5, 4))

    def test_each_pair_alone(self):
        # Two ends lie far off, the others all at one place; wire is only where it is wanted.
        for one, other in itertools.combinations(range(6), 2):
            ends = [(0, 0, 0, 0)] * 6
            ends[one] = (10, 0, 0, 0)
            ends[other] = (-10, 0, 0, 0)
            for joining in (chain_joining(6), chain_joining(6, True), ((0, 5), (1, 4), (2, 3), (6, 8), (7, 9))):
                lengths = [0] * 10
                lengths[one] = lengths[other] = 10
                lengths = tuple(lengths)
                self.fit(tuple(ends), joining, 1, lengths)
                self.refused(tuple(ends), joining, 1, exchanged(lengths, one, 9))
                self.refused(tuple(ends), joining, 1, exchanged(lengths, other, 9))

    def test_the_fields(self):
        with self.assertRaises(NoFit) as caught:
            boxes_by(((0, 0, 0, 0), (0, 0, 0, 0), (1, 0, 0, 0)), ((2, 1), (3, 0)), 1, (0, 0, 0, 0))
        self.assertEqual(repr((caught.exception.one, caught.exception.other)), "(0, 2)")

    def test_all_pairs_of_24(self):
        chance = random.Random(88)
        for turn in range(12):
            ends = any_ends(chance, 24, MILLION)
            joining = any_joining(chance, 24)
            grain = chance.choice((1, 2, 1000))
            lengths = list(length * grain // 2 + grain for length in even_tree(ends, joining)[2])
            knot = chance.randrange(46)
            lengths[knot] = 0
            self.whichever(ends, joining, grain, tuple(lengths))


class SmallFields(Fitting):

    def test_boxes_spot_by_spot(self):
        chance = random.Random(89)
        none = 0
        for turn in range(60):
            many = chance.choice((1, 2, 3, 4))
            ends = any_ends(chance, many, 1, 1)
            joining = any_joining(chance, many)
            grain = chance.choice((1, 2, 3))
            lengths = tuple(chance.randint(0, 1 + grain) for knot in range(2 * many - 2))
            places = places_to_stand(ends, joining, grain, lengths)
            tell(self, all(places), fits, ends, joining, grain, lengths)
            if all(places):
                boxes = ask(self, boxes_by, ends, joining, grain, lengths)
                self.assertEqual([spots_of(box) for box in boxes], places, (ends, joining, grain, lengths))
            else:
                none += 1
                self.refused(ends, joining, grain, lengths)
        self.assertTrue(10 < none < 50, none)

    def test_each_spot_of_the_field_as_root(self):
        chance = random.Random(90)
        wide = 0
        for turn in range(25):
            many = chance.choice((1, 2, 3))
            ends = any_ends(chance, many, 1, 1)
            joining = any_joining(chance, many)
            grain = chance.choice((1, 2))
            lengths = tuple(chance.randint(1, 1 + grain) for knot in range(2 * many - 2))
            roots = places_to_stand(ends, joining, grain, lengths)[-1]
            wide = max(wide, len(roots))
            if not fits(ends, joining, grain, lengths):
                continue
            boxes = balls_met(ends, joining, grain, lengths)
            for spot in field_about(ends, range(many), 4):
                if spot in roots:
                    tree = (grain, laid_down(many, joining, boxes, spot), lengths)
                    tell(self, tree, laid, ends, joining, grain, lengths, spot)
                    self.assertIs(tree_holds(ends, joining, None, tree), True)
                    self.assertEqual(tree[1][-1], spot)
                else:
                    refuse(self, NoPlace, laid, ends, joining, grain, lengths, spot)
        self.assertGreater(wide, 12)


class Laid(Fitting):

    def test_one_end(self):
        ends = ((3, 4, 5, 6),)
        for grain in (1, 2, 1000):
            spot = (7 * grain, -grain)
            tell(self, (grain, (spot,), ()), laid, ends, (), grain, ())
            tell(self, (grain, (spot,), ()), laid, ends, (), grain, (), spot)
            for other in beside((7 * grain, 7 * grain, -grain, -grain)):
                refuse(self, NoPlace, laid, ends, (), grain, (), other)

    def test_two_ends(self):
        ends = ((0, 0, 0, 0), (3, 1, 0, 0))
        for joining in (((0, 1),), ((1, 0),)):
            tell(self, (1, ((0, 0), (4, 2), (2, 0)), (2, 2)), laid, ends, joining, 1, (2, 2))
            tell(self, (1, ((0, 0), (4, 2), (2, 1)), (2, 2)), laid, ends, joining, 1, (2, 2), (2, 1))
            tell(self, (1, ((0, 0), (4, 2), (2, 2)), (2, 2)), laid, ends, joining, 1, (2, 2), (2, 2))
            refuse(self, NoPlace, laid, ends, joining, 1, (2, 2), (2, 3))
            refuse(self, NoPlace, laid, ends, joining, 1, (2, 2), (2, -1))
            refuse(self, NoPlace, laid, ends, joining, 1, (2, 2), (0, 0))

    def test_the_root_at_nought(self):
        ends = ((1, 1, 0, 0), (-1, -1, 0, 0))
        tell(self, (1, ((2, 0), (-2, 0), (-1, -3)), (3, 3)), laid, ends, ((0, 1),), 1, (3, 3))
        tell(self, (1, ((2, 0), (-2, 0), (0, 0)), (3, 3)), laid, ends, ((0, 1),), 1, (3, 3), (0, 0))

    def test_joints_go_as_near_as_they_may(self):
        chance = random.Random(91)
        for turn in range(40):
            many = chance.choice((3, 5, 24))
            ends = any_ends(chance, many, chance.choice((5, MILLION)))
            joining = any_joining(chance, many)
            grain = 2 * chance.choice((1, 3, 500))
            lengths = tuple(length * grain // 2 + chance.randint(0, 9 * grain)
                            for length in even_tree(ends, joining)[2])
            boxes = balls_met(ends, joining, grain, lengths)
            low_u, high_u, low_v, high_v = boxes[-1]
            for root in ((low_u, high_v), (high_u, high_v), ((low_u + high_u) // 2, (low_v + high_v) // 2)):
                tree = (grain, laid_down(many, joining, boxes, root), lengths)
                tell(self, tree, laid, ends, joining, grain, lengths, root)
                self.assertIs(tree_holds(ends, joining, None, tree), True)
            for root in beside(boxes[-1]):
                refuse(self, NoPlace, laid, ends, joining, grain, lengths, root)

    def test_no_fit_ahead_of_no_place(self):
        ends = ((0, 0, 0, 0), (3, 1, 0, 0), (0, 5, 0, 0))
        joining = ((0, 1), (3, 2))
        for root in ((0, 0), (10 ** 12, -10 ** 12), (2, 1)):
            self.refused(ends, joining, 1, (2, 1, 9, 9), root)
            self.refused(ends, joining, 1, (2, 2, 1, 0), root)
            self.refused(ends, joining, 1, (0, 0, 0, 0), root)
        # With enough of wire the same root is refused for its place.
        refuse(self, NoPlace, laid, ends, joining, 1, (2, 2, 9, 9), (10 ** 12, -10 ** 12))

    def test_told_trees_laid_again(self):
        chance = random.Random(92)
        for many in (1, 2, 5, 24):
            ends = any_ends(chance, many, MILLION, MILLION)
            joining = any_joining(chance, many)
            tree = even_tree(ends, joining)
            tell(self, tree, laid, ends, joining, 2, tree[2], tree[1][-1])


if __name__ == "__main__":
    unittest.main()
