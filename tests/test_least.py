"""The least wire within a gap: point 18, and of point 3 the sentences on it."""

import fractions
import itertools
import random
import unittest

from evenwires.errors import TooMany
from evenwires.even import even_wire
from evenwires.free import free_wire
from evenwires.least import least
from evenwires.times import times_shown
from evenwires.trees import tree_holds
from tests.helpers import (
    any_ends, any_joining, apart_by_spots, as_pair, ask, chain_joining, one_way_joinings, refuse, reordered,
    short_pairs, sides_exchanged, spread, times_borne, times_worth)

MILLION = 10 ** 6
GAPS = (0, 1, 3, 10 ** 7, None)
CORNERS = tuple((x, y, 0, 1) for x in (-MILLION, MILLION) for y in (-MILLION, MILLION))


def all_lengths(ends, joining, gap, grain, most):
    """All lengths up to the most, in grains, that fit within the gap."""
    for lengths in itertools.product(range(most + 1), repeat=2 * len(ends) - 2):
        if gap is None or spread(ends, joining, grain, lengths) <= gap * grain:
            if not short_pairs(ends, joining, grain, lengths):
                yield lengths


class Least(unittest.TestCase):

    def told(self, ends, joining, gap):
        """The least wire, which both the tree and the paper show; both looked at with and without the program."""
        tree, paper = ask(self, least, ends, joining, gap)
        self.assertEqual((type(tree), type(paper)), (tuple, tuple))
        grain, spots, lengths = tree
        wire = fractions.Fraction(sum(lengths), grain)
        why = (ends, joining, gap, tree, paper)
        self.assertIs(tree_holds(ends, joining, gap, tree), True, why)
        way = apart_by_spots(tree, len(ends), joining)
        self.assertTrue(all(length >= far for length, far in zip(lengths, way)), why)
        self.assertTrue(gap is None or spread(ends, joining, grain, lengths) <= gap * grain, why)
        self.assertEqual(times_shown(ends, joining, gap, paper), as_pair(wire), why)
        self.assertEqual(times_worth(ends, gap, paper), wire, why)
        self.assertTrue(all(times <= paper[0] for times in times_borne(len(ends), joining, paper[1])), why)
        return wire

    def each_gap(self, ends, joining, gaps=GAPS):
        """All gaps, rising: the wire gets no more; at its ends it is half the least even wire, and the free wire."""
        wires = [self.told(ends, joining, gap) for gap in gaps]
        self.assertEqual(wires, sorted(wires, reverse=True), (ends, joining))
        self.assertEqual(2 * wires[0], even_wire(ends, joining), (ends, joining))
        self.assertEqual(wires[-1], free_wire(ends, joining), (ends, joining))
        return wires

    def test_one_end(self):
        for start in (0, 5, MILLION):
            ends = ((3, 4, start, 6),)
            self.assertEqual(self.each_gap(ends, ()), [0] * len(GAPS))
            for gap in GAPS:
                grain, spots, lengths = least(ends, (), gap)[0]
                self.assertEqual((spots, lengths), (((7 * grain, -grain),), ()))

    def test_two_ends(self):
        for joining in (((0, 1),), ((1, 0),)):
            self.assertEqual(self.each_gap(((0, 0, 0, 0), (3, 1, 0, 0)), joining), [4, 4, 4, 4, 4])
            # The start is more than the way: what is beyond both the way and the gap is a detour.
            for ends in (((0, 0, 9, 0), (3, 1, 0, 0)), ((3, 1, 0, 0), (0, 0, 9, 0))):
                wires = self.each_gap(ends, joining, (0, 1, 4, 5, 6, 9, 10 ** 7, None))
                self.assertEqual(wires, [9, 8, 5, 4, 4, 4, 4, 4])

    def test_three_ends(self):
        # On one line, the ends at 0 and 10 joined first, one at 4 behind: it is only as far off as it must be.
        ends = ((0, 0, 0, 0), (10, 0, 0, 0), (4, 0, 0, 0))
        wires = self.each_gap(ends, ((0, 1), (3, 2)), (0, 1, 2, 3, 4, 5, 6, 7, 10 ** 7, None))
        self.assertEqual(wires, [15, 14, 13, 12, 11, fractions.Fraction(21, 2), 10, 10, 10, 10])

    def test_a_half_step(self):
        # The joint of the first two stands half a step from either; all reach two steps.
        ends = ((0, 0, 0, 0), (1, 0, 0, 0), (0, 3, 0, 0))
        self.assertEqual(self.told(ends, ((0, 1), (3, 2)), 0), fractions.Fraction(9, 2))

    def test_ends_at_one_place(self):
        for many in (2, 3, 4, 5):
            for joining in one_way_joinings(many)[:20]:
                ends = ((-2, 5, 3, 0),) * many
                self.assertEqual(self.each_gap(ends, joining), [0] * len(GAPS))
                ends = tuple((-2, 5, 4 * end, 0) for end in range(many))
                self.each_gap(ends, joining, (0, 1, 3, 4, 5, 4 * many, None))

    def test_ends_on_a_line(self):
        for joining in one_way_joinings(5)[::3]:
            self.each_gap(((0, 0, 0, 0), (4, 0, 0, 0), (9, 0, 0, 0), (-3, 0, 0, 0), (1, 0, 0, 0)), joining)
            self.each_gap(((7, 0, 0, 0), (7, 4, 2, 0), (7, 9, 0, 0), (7, -3, 0, 0), (7, 1, 5, 0)), joining)

    def test_ends_on_a_slanted_line(self):
        for joining in one_way_joinings(5)[1::3]:
            self.each_gap(((0, 0, 0, 0), (4, 4, 0, 0), (9, 9, 0, 0), (-3, -3, 0, 0), (1, 1, 0, 0)), joining)
            self.each_gap(((0, 0, 0, 0), (4, -4, 1, 0), (9, -9, 0, 0), (-3, 3, 0, 0), (1, -1, 6, 0)), joining)

    def test_all_joinings_of_five(self):
        chance = random.Random(121)
        for joining in one_way_joinings(5):
            ends = any_ends(chance, 5, 9, chance.choice((0, 0, 5, 30)))
            self.each_gap(ends, joining)

    def test_all_joinings_of_few(self):
        for many in (2, 3, 4):
            for turn, joining in enumerate(one_way_joinings(many) * 3):
                self.each_gap(any_ends(random.Random(122 + turn), many, 4, (0, 2, 9)[turn % 3]), joining)

    def test_at_the_bounds(self):
        chance = random.Random(123)
        gaps = (0, 1, 999999, MILLION, 3 * MILLION + 1, 10 ** 7, None)
        for joining in one_way_joinings(5)[::9]:
            self.each_gap(CORNERS + ((0, 0, 0, 0),), joining, gaps)
            self.each_gap(CORNERS + ((0, 1, MILLION, 0),), joining, gaps)
            self.each_gap(any_ends(chance, 5, MILLION, MILLION), joining, gaps)

    def test_great_starts(self):
        chance = random.Random(124)
        for turn in range(30):
            many = chance.randint(2, 5)
            ends = any_ends(chance, many, 5, MILLION)
            self.each_gap(ends, any_joining(chance, many), (0, 1, 1000, 500000, 10 ** 7, None))

    def test_a_gap_that_asks_nothing(self):
        # No reach of the free tree is so great: the gap 10 ** 7 is as good as none.
        chance = random.Random(125)
        for turn in range(30):
            many = chance.randint(1, 5)
            ends = any_ends(chance, many, 1000, 1000)
            joining = any_joining(chance, many)
            self.assertEqual(self.told(ends, joining, 10 ** 7), free_wire(ends, joining))

    def test_against_all_lengths_of_two_ends(self):
        for ends in (((0, 0, 0, 0), (2, 1, 0, 0)), ((0, 0, 4, 0), (1, 0, 0, 0)), ((0, 0, 1, 0), (0, 1, 2, 0))):
            for gap in (0, 1, 2, None):
                wire = self.told(ends, ((0, 1),), gap)
                for grain in (1, 2, 3, 4):
                    all_wires = [fractions.Fraction(sum(lengths), grain)
                                 for lengths in all_lengths(ends, ((0, 1),), gap, grain, 5 * grain)]
                    self.assertGreaterEqual(min(all_wires), wire)
                    if grain in (2, 4):
                        self.assertEqual(min(all_wires), wire)

    def test_against_all_lengths_of_three_ends(self):
        chance = random.Random(126)
        for turn in range(10):
            ends = any_ends(chance, 3, 1, turn % 3)
            joining = any_joining(chance, 3)
            for gap in (0, 1, None):
                tree = least(ends, joining, gap)[0]
                wire = self.told(ends, joining, gap)
                for grain in {1, 2, tree[0]} & {1, 2, 3}:
                    all_wires = [fractions.Fraction(sum(lengths), grain)
                                 for lengths in all_lengths(ends, joining, gap, grain, 3 * grain)]
                    self.assertGreaterEqual(min(all_wires, default=wire), wire)
                    if grain % tree[0] == 0 and max(tree[2]) * grain // tree[0] <= 3 * grain:
                        self.assertEqual(min(all_wires), wire, (ends, joining, gap))

    def test_each_gap_of_a_few(self):
        # From step to step the wire is a bent line: what a gap saves, a greater one saves no more of.
        chance = random.Random(127)
        for turn in range(12):
            ends = any_ends(chance, chance.randint(3, 5), 6, 6)
            joining = any_joining(chance, len(ends))
            wires = self.each_gap(ends, joining, tuple(range(30)) + (None,))[:-1]
            saved = [one - other for one, other in zip(wires, wires[1:])]
            self.assertEqual(saved, sorted(saved, reverse=True), (ends, joining))

    def test_sides_and_orders(self):
        chance = random.Random(128)
        for turn in range(12):
            ends = any_ends(chance, 5, 9, 9)
            joining = any_joining(chance, 5)
            for gap in (0, 2, None):
                other, numbers = reordered(chance, 5, joining)
                other = sides_exchanged(other, [chance.random() < 0.5 for row in other])
                self.assertEqual(self.told(ends, other, gap), self.told(ends, joining, gap))

    def test_loads_are_nothing_to_it(self):
        ends = ((0, 0, 0, 0), (4, 0, 3, 0), (1, 1, 0, 0), (-2, 5, 1, 0))
        other = tuple((x, y, start, MILLION) for x, y, start, load in ends)
        for gap in GAPS:
            self.assertEqual(self.told(ends, chain_joining(4), gap), self.told(other, chain_joining(4), gap))

    def test_too_many(self):
        chance = random.Random(129)
        for many in (6, 7, 12, 24):
            for ends in (any_ends(chance, many), ((0, 0, 0, 0),) * many):
                for gap in GAPS:
                    refuse(self, TooMany, least, ends, any_joining(chance, many), gap)


if __name__ == "__main__":
    unittest.main()
