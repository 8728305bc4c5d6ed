"""Papers of pairs: point 14, of point 3 what they show, and of point 2 what is of anything."""

import itertools
import random
import unittest

from evenwires.even import even_tree, even_wire
from evenwires.pairs import pairs_for, pairs_shown
from evenwires.trees import tree_holds
from tests.helpers import (
    GREAT_THINGS, NO_NUMBERS, NO_TUPLES, all_joinings, any_ends, any_joining, ask, beneath_each, chain_joining,
    even_wires, exchanged, half_steps, tell)

MILLION = 10 ** 6
GREAT = 10 ** 60 - 1

ENDS = ((0, 0, 0, 1), (4, 0, 2, 1), (1, 1, 0, 1))
JOINING = ((0, 2), (3, 1))


def pairs_of(some):
    """All pairs that a joint of these ends may have, rising."""
    return list(itertools.combinations_with_replacement(sorted(some), 2))


def papers_of(many, joining):
    """All papers of a small joining."""
    return itertools.product(*[pairs_of(some) for some in beneath_each(many, joining)[many:]])


def any_paper(chance, many, joining):
    """Some paper."""
    return tuple(chance.choice(pairs_of(some)) for some in beneath_each(many, joining)[many:])


def shown_by(ends, paper):
    """What a paper shows, told apart from the program."""
    if len(ends) == 1:
        return 0
    wants = [half_steps(ends, one, other) for one, other in paper]
    return sum(wants) + wants[-1] - 2 * sum(end[2] for end in ends)


def first_pairs(ends, joining):
    """The paper that is to be told: of each joint the first pair that wants the most."""
    found = []
    for some in beneath_each(len(ends), joining)[len(ends):]:
        pairs = pairs_of(some)
        most = max(half_steps(ends, *pair) for pair in pairs)
        found.append([pair for pair in pairs if half_steps(ends, *pair) == most][0])
    return tuple(found)


class PairsFor(unittest.TestCase):

    def told(self, ends, joining):
        paper = ask(self, pairs_for, ends, joining)
        self.assertEqual(repr(paper), repr(first_pairs(ends, joining)), (ends, joining))
        tell(self, even_wire(ends, joining), pairs_shown, ends, joining, paper)

    def test_one_end(self):
        for start in (0, 5, MILLION):
            tell(self, (), pairs_for, ((3, 4, start, 6),), ())

    def test_two_ends(self):
        for joining in (((0, 1),), ((1, 0),)):
            tell(self, ((0, 1),), pairs_for, ((0, 0, 0, 0), (3, 0, 0, 0)), joining)
            # One end alone wants more than both.
            tell(self, ((0, 0),), pairs_for, ((0, 0, 9, 0), (3, 0, 0, 0)), joining)
            tell(self, ((1, 1),), pairs_for, ((0, 0, 0, 0), (3, 0, 9, 0)), joining)

    def test_the_first_of_several(self):
        # As much is wanted by one end alone, by both, and by the other one.
        for joining in (((0, 1),), ((1, 0),)):
            tell(self, ((0, 0),), pairs_for, ((2, 2, 3, 0), (2, 2, 3, 0)), joining)
            tell(self, ((0, 0),), pairs_for, ((0, 0, 3, 0), (3, 0, 0, 0)), joining)
            tell(self, ((0, 1),), pairs_for, ((0, 0, 0, 0), (3, 0, 3, 0)), joining)
        # Three ends, each two of them alike far.
        ends = ((0, 0, 0, 0), (1, 1, 0, 0), (1, -1, 0, 0))
        tell(self, ((0, 1), (0, 1)), pairs_for, ends, ((0, 1), (3, 2)))
        tell(self, ((1, 2), (0, 1)), pairs_for, ends, ((2, 1), (3, 0)))
        tell(self, ((0, 2), (0, 1)), pairs_for, ends, ((2, 0), (1, 3)))

    def test_three_ends(self):
        tell(self, ((0, 2), (0, 1)), pairs_for, ENDS, JOINING)

    def test_every_joining_of_four(self):
        for ends in (((0, 0, 0, 0), (3, 1, 2, 0), (-2, 4, 0, 0), (1, 1, 9, 0)), ((0, 0, 1, 0),) * 4,
                     ((0, 0, 0, 0), (2, 0, 0, 0), (0, 2, 0, 0), (2, 2, 0, 0))):
            for joining in all_joinings(4):
                self.told(ends, joining)

    def test_many(self):
        chance = random.Random(71)
        for many in range(1, 25):
            for wide, starts in ((2, 0), (3, 5), (MILLION, MILLION), (0, 1)):
                self.told(any_ends(chance, many, wide, starts), any_joining(chance, many))

    def test_24_ends_at_the_bounds(self):
        chance = random.Random(72)
        ends = tuple((x, y, start, 0) for x in (-MILLION, MILLION) for y in (-MILLION, MILLION)
                     for start in (0, MILLION)) * 3
        for joining in (chain_joining(24), chain_joining(24, True), any_joining(chance, 24)):
            self.told(ends, joining)


class PairsShown(unittest.TestCase):

    def test_one_end(self):
        for start in (0, 5, MILLION):
            tell(self, 0, pairs_shown, ((3, 4, start, 6),), (), ())

    def test_two_ends(self):
        ends = ((0, 0, 3, 0), (5, 1, 1, 0))
        for joining in (((0, 1),), ((1, 0),)):
            tell(self, 10 + 10 - 8, pairs_shown, ends, joining, ((0, 1),))
            tell(self, 6 + 6 - 8, pairs_shown, ends, joining, ((0, 0),))
            # Less than nothing is shown, too.
            tell(self, 2 + 2 - 8, pairs_shown, ends, joining, ((1, 1),))

    def test_three_ends(self):
        tell(self, 2 + 6 + 6 - 4, pairs_shown, ENDS, JOINING, ((0, 2), (0, 1)))
        tell(self, 0 + 6 + 6 - 4, pairs_shown, ENDS, JOINING, ((2, 2), (1, 2)))
        tell(self, 2 + 4 + 4 - 4, pairs_shown, ENDS, JOINING, ((0, 2), (1, 1)))

    def test_every_paper_of_small_joinings(self):
        chance = random.Random(73)
        for many in (2, 3, 4):
            for turn in range(4):
                ends = any_ends(chance, many, 1, (0, 1, 3)[turn % 3])
                joining = any_joining(chance, many)
                least = min(even_wires(ends, joining)[-1].values())
                shown = []
                for paper in papers_of(many, joining):
                    tell(self, shown_by(ends, paper), pairs_shown, ends, joining, paper)
                    shown.append(shown_by(ends, paper))
                # None shows more than an even tree has, and one of them shows just as much.
                self.assertEqual(max(shown), least, (ends, joining))

    def test_papers_of_any_hand(self):
        chance = random.Random(74)
        for many in (2, 5, 12, 24):
            for wide, starts in ((9, 0), (9, 20), (MILLION, MILLION)):
                ends = any_ends(chance, many, wide, starts)
                joining = any_joining(chance, many)
                least = even_wire(ends, joining)
                wires = [sum(tree[2]) for tree in self.even_trees(chance, ends, joining)]
                self.assertEqual(min(wires), least)
                for turn in range(20):
                    paper = any_paper(chance, many, joining)
                    tell(self, shown_by(ends, paper), pairs_shown, ends, joining, paper)
                    self.assertLessEqual(shown_by(ends, paper), least)

    def even_trees(self, chance, ends, joining):
        """The told even tree, and some with more wire."""
        grain, spots, lengths = even_tree(ends, joining)
        for by in (0, 1, chance.randint(2, 10 ** 6)):
            k = chance.randrange(len(joining))
            joint = len(ends) + k
            # What a joint stands higher is taken off the wire above it, as far as there is some.
            if joint < len(lengths):
                by = min(by, lengths[joint])
            more = {joining[k][0]: by, joining[k][1]: by, joint: -by}
            tree = (grain, spots, tuple(length + more.get(knot, 0) for knot, length in enumerate(lengths)))
            if tree_holds(ends, joining, 0, tree):
                yield tree

    def test_the_first_side_need_not_be_the_lesser(self):
        tell(self, 14, pairs_shown, ENDS, ((1, 0), (2, 3)), ((0, 1), (1, 2)))


class NoPapers(unittest.TestCase):

    def setUp(self):
        chance = random.Random(75)
        self.cases = [(ENDS, JOINING), (ENDS[:2], ((1, 0),))]
        for many in (4, 7, 24):
            self.cases.append((any_ends(chance, many), any_joining(chance, many)))
        self.cases = [(ends, joining, pairs_for(ends, joining)) for ends, joining in self.cases]
        for ends, joining, paper in self.cases:
            self.assertIsNotNone(pairs_shown(ends, joining, paper))

    def none(self, ends, joining, thing):
        self.assertIsNone(ask(self, pairs_shown, ends, joining, thing), (ends, joining, repr(thing)[:200]))

    def test_of_one_end(self):
        ends = ((3, 4, 5, 6),)
        for thing in NO_TUPLES + GREAT_THINGS + (((0, 0),), ((),), (None,), (0,), (0, 0), [()], [[]], (False,)):
            self.none(ends, (), thing)

    def test_the_whole(self):
        for ends, joining, paper in self.cases:
            for thing in NO_TUPLES + NO_NUMBERS + GREAT_THINGS:
                self.none(ends, joining, thing)
            for thing in (list(paper), [list(pair) for pair in paper], dict(enumerate(paper)), {paper: paper},
                          repr(paper), (paper,), (paper, paper)):
                self.none(ends, joining, thing)

    def test_too_few_and_too_many(self):
        for ends, joining, paper in self.cases:
            for thing in ((), paper[:-1], paper[1:], paper + paper[-1:], paper[:1] + paper, paper + ((0, 0),),
                          paper + (None,), paper + paper):
                self.none(ends, joining, thing)

    def test_one_above_other(self):
        for ends, joining, paper in self.cases:
            some = beneath_each(len(ends), joining)[len(ends):]
            for k, beneath in enumerate(some):
                for one, other in itertools.combinations(beneath[:4], 2):
                    self.assertIsNotNone(pairs_shown(ends, joining, exchanged(paper, k, (one, other))))
                    self.none(ends, joining, exchanged(paper, k, (other, one)))

    def test_ends_not_beneath(self):
        for ends, joining, paper in self.cases:
            many = len(ends)
            for k, beneath in enumerate(beneath_each(many, joining)[many:]):
                within = beneath[0]
                for other in range(-2, 2 * many + 2):
                    pairs = {tuple(sorted((within, other))), (other, other)}
                    for pair in pairs:
                        told = ask(self, pairs_shown, ends, joining, exchanged(paper, k, pair))
                        self.assertEqual(told is None, other not in beneath, (pair, beneath))

    def test_numbers_that_are_no_ends(self):
        for ends, joining, paper in self.cases:
            many = len(ends)
            for number in (-1, -many, many, 2 * many - 2, GREAT, -GREAT):
                for k in {0, len(paper) - 1}:
                    one, other = paper[k]
                    self.none(ends, joining, exchanged(paper, k, tuple(sorted((one, number)))))
                    self.none(ends, joining, exchanged(paper, k, (number, number)))

    def test_pairs_of_other_kinds(self):
        for ends, joining, paper in self.cases:
            for k in {0, len(paper) - 1}:
                one, other = paper[k]
                for thing in NO_TUPLES + NO_NUMBERS + ([one, other], (one,), (one, other, other), (paper[k],),
                                                       {one: one, other: other}, f"{one}{other}", ((one, other),) * 2):
                    # (0, 1) and the like are no numbers, but may well be pairs.
                    if not (isinstance(thing, tuple) and len(thing) == 2 and thing[:1] == (0,)):
                        self.none(ends, joining, exchanged(paper, k, thing))

    def test_numbers_of_other_kinds(self):
        for ends, joining, paper in self.cases:
            for k in {0, len(paper) - 1}:
                for side, thing in itertools.product((0, 1), NO_NUMBERS):
                    self.none(ends, joining, exchanged(paper, k, exchanged(paper[k], side, thing)))
                    self.none(ends, joining, exchanged(paper, k, (thing, thing)))

    def test_truths_in_the_place_of_their_numbers(self):
        ends = ((0, 0, 0, 0), (3, 0, 0, 0))
        for pair in ((0, 0), (0, 1), (1, 1)):
            self.assertIsNotNone(pairs_shown(ends, ((0, 1),), (pair,)))
            for other in ((bool(pair[0]), pair[1]), (pair[0], bool(pair[1])), (bool(pair[0]), bool(pair[1]))):
                self.none(ends, ((0, 1),), (other,))


if __name__ == "__main__":
    unittest.main()
