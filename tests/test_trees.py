"""Trees, their wire, reaches, gaps and detours: points 11 and 12, and of point 2 what is of anything."""

import random
import unittest

from evenwires.even import even_tree
from evenwires.trees import detours, gap_of, reaches, tree_holds, wire_of
from tests.helpers import (
    GREAT_THINGS, NO_NUMBERS, NO_TUPLES, above_each, all_joinings, any_ends, any_joining, apart_by_spots, ask,
    chain_joining, exchanged, finer, spread, tell, wire_up)

MILLION = 10 ** 6
GREAT = 10 ** 60 - 1

ENDS = ((0, 0, 0, 1), (4, 0, 2, 1), (1, 1, 0, 1))
JOINING = ((0, 2), (3, 1))
# The ends 0 and 2 are joined between them, half a step beside either.
TREE = (2, ((0, 0), (8, 8), (4, 0), (2, 2), (6, 6)), (2, 2, 2, 4))

ONE = ((3, -4, 5, 6),)
TWO = ((0, 0, 0, 0), (3, 1, 0, 0))
TWO_TREE = (1, ((0, 0), (4, 2), (2, 1)), (2, 2))


def longer(tree, knot, by):
    """The tree with one wire so much longer."""
    grain, spots, lengths = tree
    return grain, spots, exchanged(lengths, knot, lengths[knot] + by)


def any_tree(chance, ends, joining, wide, slack):
    """Some tree: joints anywhere about nought, each wire its way and up to so much more."""
    grain = chance.randint(1, 4)
    spots = [(grain * (x + y), grain * (x - y)) for x, y, start, load in ends]
    spots += [(chance.randint(-wide, wide), chance.randint(-wide, wide)) for row in joining]
    way = apart_by_spots((grain, spots, ()), len(ends), joining)
    return grain, tuple(spots), tuple(far + chance.randint(0, slack) for far in way)


class Held(unittest.TestCase):

    def holds(self, ends, joining, gap, thing):
        self.assertIs(ask(self, tree_holds, ends, joining, gap, thing), True, (ends, joining, gap, repr(thing)[:300]))

    def fails(self, ends, joining, gap, thing):
        self.assertIs(ask(self, tree_holds, ends, joining, gap, thing), False, (ends, joining, gap, repr(thing)[:300]))


class TreeHolds(Held):

    def test_one_end(self):
        for grain in (1, 2, 3, 1000, 10 ** 50):
            tree = (grain, ((-grain, 7 * grain),), ())
            for gap in (0, 1, 10 ** 7, None):
                self.holds(ONE, (), gap, tree)
                self.fails(ONE, (), gap, (grain, ((1 - grain, 7 * grain),), ()))
                self.fails(ONE, (), gap, (grain, ((-grain, 7 * grain),), (0,)))
                self.fails(ONE, (), gap, (grain, ((-grain, 7 * grain),) * 2, ()))
                self.fails(ONE, (), gap, (grain, (), ()))

    def test_two_ends(self):
        for joining in (((0, 1),), ((1, 0),)):
            self.holds(TWO, joining, 0, TWO_TREE)
            self.holds(TWO, joining, None, TWO_TREE)
            # At the one end itself, and far beside both.
            self.holds(TWO, joining, 4, (1, ((0, 0), (4, 2), (0, 0)), (0, 4)))
            self.fails(TWO, joining, 3, (1, ((0, 0), (4, 2), (0, 0)), (0, 4)))
            self.holds(TWO, joining, 0, (1, ((0, 0), (4, 2), (99, -99)), (101, 101)))
            self.fails(TWO, joining, 0, (1, ((0, 0), (4, 2), (99, -99)), (100, 100)))

    def test_three_ends(self):
        self.holds(ENDS, JOINING, 0, TREE)
        self.holds(ENDS, JOINING, None, TREE)

    def test_ends_at_one_place(self):
        ends = ((2, 1, 0, 0),) * 4
        for joining in all_joinings(4)[:30]:
            self.holds(ends, joining, 0, (1, ((3, 1),) * 7, (0,) * 6))
            self.fails(ends, joining, None, (1, ((3, 1),) * 6 + ((3, 2),), (0,) * 6))

    def test_told_trees(self):
        chance = random.Random(51)
        for many in (1, 2, 3, 5, 9, 16, 24):
            for wide, starts in ((5, 0), (9, 12), (MILLION, MILLION), (0, 3)):
                ends = any_ends(chance, many, wide, starts)
                joining = any_joining(chance, many)
                tree = even_tree(ends, joining)
                for gap in (0, 1, 10 ** 7, None):
                    self.holds(ends, joining, gap, tree)

    def test_other_grains(self):
        chance = random.Random(52)
        for many in (1, 2, 4, 24):
            ends = any_ends(chance, many)
            joining = any_joining(chance, many)
            for by in (2, 3, 500, 10 ** 9):
                tree = finer(even_tree(ends, joining), by)
                self.holds(ends, joining, 0, tree)
                # Places of another grain than the tree's own.
                self.fails(ends, joining, None, (tree[0] + 1,) + tree[1:])
                self.fails(ends, joining, None, (tree[0] // by,) + tree[1:])

    def test_the_gap_and_one_grain_beyond(self):
        chance = random.Random(53)
        for many in (2, 3, 7, 24):
            ends = any_ends(chance, many)
            joining = any_joining(chance, many)
            end = chance.randrange(many)
            for by in (1, 5, 500):
                tree = finer(even_tree(ends, joining), by)
                for gap in (0, 1, 6, MILLION):
                    self.holds(ends, joining, gap, longer(tree, end, gap * tree[0]))
                    self.fails(ends, joining, gap, longer(tree, end, gap * tree[0] + 1))
                    self.holds(ends, joining, gap + 1, longer(tree, end, gap * tree[0] + 1))
                    self.holds(ends, joining, None, longer(tree, end, gap * tree[0] + 1))

    def test_the_gap_at_the_grain_one(self):
        for gap in (0, 1, 2, 10 ** 7):
            self.holds(TWO, ((0, 1),), gap, longer(TWO_TREE, 0, gap))
            self.holds(TWO, ((0, 1),), gap, longer(TWO_TREE, 1, gap))
            self.fails(TWO, ((0, 1),), gap, longer(TWO_TREE, 0, gap + 1))
            self.fails(TWO, ((0, 1),), gap, longer(TWO_TREE, 1, gap + 1))

    def test_starts_are_in_the_gap(self):
        # Ways alike far, starts 3 steps unlike, at three grains.
        ends = ((0, 0, 1, 0), (2, 0, 4, 0))
        for grain in (1, 2, 1000):
            tree = (grain, ((0, 0), (2 * grain, 2 * grain), (grain, grain)), (grain, grain))
            self.holds(ends, ((0, 1),), 3, tree)
            self.fails(ends, ((0, 1),), 2, tree)
            self.holds(ends, ((0, 1),), None, tree)
            self.holds(ends, ((0, 1),), 0, longer(tree, 0, 3 * grain))

    def test_detours(self):
        for by in (1, 7, 10 ** 9, 10 ** 50):
            # Both wires at the root: all ends reach as much further.
            self.holds(ENDS, JOINING, 0, longer(longer(TREE, 1, by), 3, by))
            self.holds(ENDS, JOINING, None, longer(TREE, 0, by))
            self.fails(ENDS, JOINING, 0, longer(TREE, 0, by))

    def test_every_kind_of_tree(self):
        chance = random.Random(54)
        seen = {True: 0, False: 0}
        for turn in range(400):
            many = chance.randint(1, 5)
            ends = any_ends(chance, many, 3, 3)
            joining = any_joining(chance, many)
            grain, spots, lengths = any_tree(chance, ends, joining, 8, 3)
            lengths = tuple(max(0, length - (chance.random() < 0.06)) for length in lengths)
            gap = chance.choice((0, 1, 2, 4, 8, None))
            way = apart_by_spots((grain, spots, lengths), many, joining)
            want = all(length >= far for length, far in zip(lengths, way))
            want = want and (gap is None or spread(ends, joining, grain, lengths) <= gap * grain)
            seen[want] += 1
            tell(self, want, tree_holds, ends, joining, gap, (grain, spots, lengths))
        self.assertGreater(min(seen.values()), 80)


class Spoilt(Held):

    def setUp(self):
        chance = random.Random(55)
        self.cases = [(ENDS, JOINING, TREE), (TWO, ((1, 0),), TWO_TREE), (ONE, (), (2, ((-2, 14),), ()))]
        for many in (4, 24):
            ends = any_ends(chance, many)
            joining = any_joining(chance, many)
            self.cases.append((ends, joining, even_tree(ends, joining)))
        for ends, joining, tree in self.cases:
            self.holds(ends, joining, 0, tree)

    def wrong(self, ends, joining, thing):
        self.fails(ends, joining, None, thing)
        self.assertIs(tree_holds(ends, joining, 10 ** 7, thing), False)

    def test_things_of_all_kinds(self):
        for ends, joining, tree in self.cases:
            for thing in NO_TUPLES + NO_NUMBERS + GREAT_THINGS:
                self.wrong(ends, joining, thing)

    def test_the_whole(self):
        for ends, joining, tree in self.cases:
            grain, spots, lengths = tree
            for thing in (list(tree), tree[:2], tree[1:], tree[:1], tree + (0,), tree + ((),), (tree,), {0: tree},
                          {grain: 1, spots: 2, lengths: 3}, repr(tree), (spots, grain, lengths),
                          (grain, lengths, spots)):
                self.wrong(ends, joining, thing)

    def test_parts_of_other_kinds(self):
        for ends, joining, tree in self.cases:
            grain, spots, lengths = tree
            for part in NO_NUMBERS:
                self.wrong(ends, joining, (part, spots, lengths))
            for part in NO_TUPLES:
                self.wrong(ends, joining, (grain, part, lengths))
                self.wrong(ends, joining, (grain, spots, part))
            self.wrong(ends, joining, (grain, list(spots), lengths))
            self.wrong(ends, joining, (grain, spots, list(lengths)))
            self.wrong(ends, joining, (grain, {spot: spot for spot in spots}, lengths))

    def test_parts_of_spots(self):
        for ends, joining, tree in self.cases:
            grain, spots, lengths = tree
            # A few knots of each kind are enough, the root among them.
            for knot in sorted({0, len(ends) - 1, len(spots) // 2, len(spots) - 1}):
                for part in NO_TUPLES + (list(spots[knot]), spots[knot][:1], spots[knot] + (0,), ()):
                    self.wrong(ends, joining, (grain, exchanged(spots, knot, part), lengths))
                for side in (0, 1):
                    for part in NO_NUMBERS + (GREAT, -GREAT, str(spots[knot][side])):
                        spot = exchanged(spots[knot], side, part)
                        self.wrong(ends, joining, (grain, exchanged(spots, knot, spot), lengths))

    def test_lengths_of_other_kinds(self):
        for ends, joining, tree in self.cases:
            grain, spots, lengths = tree
            for knot in sorted({0, len(lengths) // 2, len(lengths) - 1} & set(range(len(lengths)))):
                for part in NO_NUMBERS + (str(lengths[knot]), (lengths[knot],), -GREAT):
                    self.wrong(ends, joining, (grain, spots, exchanged(lengths, knot, part)))

    def test_truths_in_the_place_of_their_numbers(self):
        # All numbers here are 0 or 1, so that truths are equal to them.
        ends = ((0, 0, 0, 0), (1, 0, 0, 0))
        tree = (1, ((0, 0), (1, 1), (0, 0)), (0, 1))
        self.holds(ends, ((0, 1),), 1, tree)
        grain, spots, lengths = tree
        self.fails(ends, ((0, 1),), 1, (True, spots, lengths))
        for knot, spot in enumerate(spots):
            for side in (0, 1):
                other = exchanged(spots, knot, exchanged(spot, side, bool(spot[side])))
                self.assertEqual(other, spots)
                self.fails(ends, ((0, 1),), 1, (grain, other, lengths))
        for knot, length in enumerate(lengths):
            self.fails(ends, ((0, 1),), 1, (grain, spots, exchanged(lengths, knot, bool(length))))

    def test_too_few_and_too_many(self):
        for ends, joining, tree in self.cases:
            grain, spots, lengths = tree
            for some in (spots[:-1], spots[1:], (), spots + spots[-1:], spots[:1] + spots, spots + spots,
                         spots[:len(ends)]):
                if some != spots:
                    self.wrong(ends, joining, (grain, some, lengths))
            for some in (lengths + (0,), (0,) + lengths, lengths + (10 ** 9,), lengths + lengths + (0, 0)):
                self.wrong(ends, joining, (grain, spots, some))
            if lengths:
                for some in (lengths[:-1], lengths[1:], (), lengths[:len(ends)][:-1]):
                    self.wrong(ends, joining, (grain, spots, some))

    def test_the_grain(self):
        for ends, joining, tree in self.cases:
            for grain in (0, -1, -2, -GREAT):
                self.wrong(ends, joining, (grain,) + tree[1:])
        # Even where all spots and lengths are those of the grain 0.
        for grain in (0, -1):
            self.wrong(((0, 0, 0, 0),), (), (grain, ((0, 0),), ()))
            self.wrong(((0, 0, 0, 0),) * 2, ((0, 1),), (grain, ((0, 0),) * 3, (0, 0)))
            self.wrong(((3, 4, 0, 0),), (), (grain, ((7 * grain, -grain),), ()))

    def test_an_end_moved(self):
        # Wires so long that only the place is wrong.
        for ends, joining, tree in self.cases:
            grain, spots, lengths = tree
            lengths = tuple(length + 10 ** 9 for length in lengths)
            self.holds(ends, joining, None, (grain, spots, lengths))
            for end in range(len(ends)):
                u, v = spots[end]
                for spot in ((u + 1, v), (u - 1, v), (u, v + 1), (u, v - 1), (u + grain, v + grain)):
                    self.wrong(ends, joining, (grain, exchanged(spots, end, spot), lengths))

    def test_joints_may_stand_anywhere(self):
        for ends, joining, tree in self.cases:
            grain, spots, lengths = tree
            lengths = tuple(length + 10 ** 9 for length in lengths)
            for joint in range(len(ends), len(spots)):
                for spot in ((0, 0), (10 ** 8, -10 ** 8), (-1, 1)):
                    self.holds(ends, joining, None, (grain, exchanged(spots, joint, spot), lengths))

    def test_a_length_less_than_its_way(self):
        chance = random.Random(56)
        for turn in range(40):
            many = chance.choice((2, 3, 5, 24))
            ends = any_ends(chance, many)
            joining = any_joining(chance, many)
            tree = any_tree(chance, ends, joining, 40, 0)
            self.holds(ends, joining, None, tree)
            for knot in range(2 * many - 2):
                # One less than it is apart: at ways of 0 this is below 0.
                self.wrong(ends, joining, longer(tree, knot, -1))

    def test_a_length_below_nought(self):
        ends = ((1, 1, 0, 0),) * 3
        tree = (1, ((2, 0),) * 5, (0, 0, 0, 0))
        self.holds(ends, JOINING, 0, tree)
        for knot in range(4):
            for low in (-1, -10 ** 9, -GREAT):
                self.wrong(ends, JOINING, longer(tree, knot, low))

    def test_the_last_knot(self):
        for ends, joining, tree in self.cases[:2] + self.cases[3:]:
            grain, spots, lengths = tree
            tight = (grain, spots, tuple(apart_by_spots(tree, len(ends), joining)))
            self.holds(ends, joining, None, tight)
            u, v = spots[-1]
            for spot in ((u + 10 ** 8, v), (u, v - 10 ** 8), (GREAT, GREAT)):
                self.wrong(ends, joining, (grain, spots[:-1] + (spot,), tight[2]))
        self.wrong(ONE, (), (2, ((0, 0),), ()))

    def test_another_joining_or_other_ends(self):
        self.holds(ENDS, ((2, 0), (1, 3)), 0, TREE)
        self.wrong(ENDS, ((0, 1), (3, 2)), TREE)
        self.wrong(ENDS[::-1], JOINING, TREE)
        self.wrong(ENDS[:2], ((0, 1),), TREE)
        self.wrong(ENDS + ENDS[:1], ((0, 2), (4, 1), (5, 3)), TREE)


class Numbers(unittest.TestCase):

    def test_wire_of(self):
        tell(self, 0, wire_of, ())
        tell(self, 0, wire_of, (0, 0))
        tell(self, 10, wire_of, (2, 2, 2, 4))
        tell(self, 46 * 10 ** 10, wire_of, (10 ** 10,) * 46)
        tell(self, sum(range(46)), wire_of, tuple(range(46)))

    def test_one_end(self):
        for grain in (1, 2, 1000):
            tell(self, (5 * grain,), reaches, ONE, (), grain, ())
            tell(self, 0, gap_of, ONE, (), grain, ())
        tell(self, (0,), reaches, ((3, 4, 0, 9),), (), 1, ())
        tell(self, (1000 * MILLION,), reaches, ((3, 4, MILLION, 9),), (), 1000, ())
        tell(self, (), detours, (), (2, ((-2, 14),), ()))

    def test_two_ends(self):
        ends = ((0, 0, 3, 0), (3, 1, 0, 0))
        for joining in (((0, 1),), ((1, 0),)):
            for grain, want in ((1, (3 + 7, 11)), (2, (6 + 7, 11)), (1000, (3000 + 7, 11))):
                tell(self, want, reaches, ends, joining, grain, (7, 11))
                tell(self, abs(want[0] - want[1]), gap_of, ends, joining, grain, (7, 11))
            tell(self, (5, 9), detours, joining, (1, ((0, 0), (4, 2), (2, 1)), (7, 11)))
            tell(self, (0, 0), detours, joining, TWO_TREE)

    def test_three_ends(self):
        tell(self, (4, 6, 4), reaches, ((0, 0, 0, 0), (4, 0, 2, 0), (1, 1, 0, 0)), JOINING, 2, (2, 2, 2, 2))
        tell(self, (6, 6, 6), reaches, ENDS, JOINING, 2, TREE[2])
        tell(self, 0, gap_of, ENDS, JOINING, 2, TREE[2])
        tell(self, (0, 0, 0, 0), detours, JOINING, TREE)
        tell(self, (1, 0, 7, 3), detours, JOINING, (2, TREE[1], (3, 2, 9, 7)))

    def test_the_reach_is_in_grains(self):
        # The start is so many steps, the lengths are grains already.
        tell(self, (1000 * 5 + 1, 1000 * 7 + 2), reaches, ((0, 0, 5, 0), (0, 0, 7, 0)), ((0, 1),), 1000, (1, 2))
        tell(self, 2001, gap_of, ((0, 0, 5, 0), (0, 0, 7, 0)), ((0, 1),), 1000, (1, 2))

    def test_chains_of_24(self):
        ends = tuple((0, 0, end, 1) for end in range(24))
        for flipped in (False, True):
            joining = chain_joining(24, flipped)
            ones = (1,) * 46
            ways = (23, 23) + tuple(range(22, 0, -1))
            for grain in (1, 2, 1000):
                want = tuple(grain * end + ways[end] for end in range(24))
                tell(self, want, reaches, ends, joining, grain, ones)
                tell(self, max(want) - min(want), gap_of, ends, joining, grain, ones)
            tell(self, (1,) * 46, detours, joining, (1, ((0, 0),) * 47, ones))

    def test_great_starts_and_lengths(self):
        ends = ((0, 0, MILLION, 0), (0, 0, 0, 0), (1, 0, MILLION - 1, 0))
        lengths = (10 ** 10, 0, 10 ** 10, 10 ** 10)
        tell(self, (10 ** 9 + 2 * 10 ** 10, 0, 10 ** 9 - 1000 + 2 * 10 ** 10), reaches, ends, JOINING, 1000, lengths)
        tell(self, 10 ** 9 + 2 * 10 ** 10, gap_of, ends, JOINING, 1000, lengths)

    def test_against_going_up(self):
        chance = random.Random(57)
        for many in (1, 2, 3, 5, 8, 13, 24):
            for turn in range(6):
                ends = any_ends(chance, many, MILLION, chance.choice((0, 9, MILLION)))
                joining = any_joining(chance, many)
                grain = chance.choice((1, 2, 3, 1000))
                lengths = tuple(chance.randint(0, 10 ** 10) for knot in range(2 * many - 2))
                want = tuple(grain * ends[end][2] + wire_up(many, joining, lengths, end) for end in range(many))
                tell(self, want, reaches, ends, joining, grain, lengths)
                tell(self, spread(ends, joining, grain, lengths), gap_of, ends, joining, grain, lengths)
                tell(self, sum(lengths), wire_of, lengths)

    def test_detours_against_the_ways(self):
        chance = random.Random(58)
        for many in (1, 2, 3, 6, 24):
            for turn in range(6):
                ends = any_ends(chance, many)
                joining = any_joining(chance, many)
                tree = any_tree(chance, ends, joining, 50, 5)
                way = apart_by_spots(tree, many, joining)
                want = tuple(length - far for length, far in zip(tree[2], way))
                tell(self, want, detours, joining, tree)

    def test_the_joint_above(self):
        # What the other tests go up by.
        self.assertEqual(above_each(4, ((3, 1), (4, 0), (2, 5))), [5, 4, 6, 4, 5, 6])


if __name__ == "__main__":
    unittest.main()
