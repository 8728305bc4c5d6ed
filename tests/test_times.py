"""Papers of times: point 19, of point 3 what they show, and of point 2 what is of anything."""

import fractions
import itertools
import random
import unittest

from evenwires.even import even_tree
from evenwires.least import least
from evenwires.times import times_shown
from evenwires.trees import tree_holds
from tests.helpers import (
    GREAT_THINGS, NO_NUMBERS, NO_TUPLES, any_ends, any_joining, as_pair, ask, chain_joining, exchanged,
    one_way_joinings, short_pairs, spread, tell, times_borne, times_worth)

MILLION = 10 ** 6
GREAT = 10 ** 60 - 1

TWO = ((0, 0, 1, 0), (3, 1, 5, 0))
FOUR = ((0, 0, 0, 0), (4, 0, 3, 0), (1, 1, 0, 0), (-2, 5, 1, 0))
# Both sides of the root have two ends.
EVEN = ((0, 1), (2, 3), (4, 5))


def any_rows(chance, many, gap, how_many, most):
    """Some rows of a paper by the gap."""
    rows = []
    for turn in range(how_many if many > 1 else 0):
        one, other = chance.sample(range(many), 2)
        times = chance.randint(1, most)
        if gap is None or chance.random() < 0.5:
            rows.append(("far", min(one, other), max(one, other), times))
        else:
            rows.append(("gap", one, other, times))
    return tuple(rows)


def trees_within(chance, ends, joining, gap):
    """The grains and lengths of some trees within the gap, by going on from an even one."""
    many = len(ends)
    for turn in range(12):
        grain = 2 * chance.choice((1, 2, 3))
        lengths = [length * grain // 2 for length in even_tree(ends, joining)[2]]
        for change in range(8):
            knot = chance.randrange(len(lengths))
            other = list(lengths)
            other[knot] = max(0, other[knot] + chance.choice((-1, 1)) * chance.randint(1, 2 * grain))
            fits = not short_pairs(ends, joining, grain, other)
            if fits and (gap is None or spread(ends, joining, grain, other) <= gap * grain):
                lengths = other
        yield grain, tuple(lengths)


class TimesShown(unittest.TestCase):

    def shows(self, ends, joining, gap, paper):
        """It is a paper, and shows what it is worth, in lowest terms."""
        told = as_pair(times_worth(ends, gap, paper))
        tell(self, told, times_shown, ends, joining, gap, paper)

    def none(self, ends, joining, gap, thing):
        self.assertIsNone(ask(self, times_shown, ends, joining, gap, thing), (ends, joining, gap, repr(thing)[:200]))

    def whichever(self, ends, joining, gap, paper):
        """It is a paper just where no wire bears more than the bottom."""
        if any(times > paper[0] for times in times_borne(len(ends), joining, paper[1])):
            self.none(ends, joining, gap, paper)
            return False
        self.shows(ends, joining, gap, paper)
        return True

    def test_no_rows(self):
        for many in (1, 2, 5, 24):
            ends = any_ends(random.Random(many), many)
            for gap in (0, 3, None):
                for bottom in (1, 2, 10 ** 15):
                    tell(self, (0, 1), times_shown, ends, chain_joining(many), gap, (bottom, ()))

    def test_two_ends(self):
        for joining in (((0, 1),), ((1, 0),)):
            for gap in (0, 2, None):
                tell(self, (4, 1), times_shown, TWO, joining, gap, (1, (("far", 0, 1, 1),)))
                tell(self, (4, 3), times_shown, TWO, joining, gap, (3, (("far", 0, 1, 1),)))
                tell(self, (8, 3), times_shown, TWO, joining, gap, (3, (("far", 0, 1, 2),)))
                self.none(TWO, joining, gap, (1, (("far", 0, 1, 2),)))
            # End 1 starts 4 steps beyond end 0: within the gap 1 this one's wire is at least 3 steps.
            tell(self, (3, 1), times_shown, TWO, joining, 1, (1, (("gap", 1, 0, 1),)))
            tell(self, (4, 1), times_shown, TWO, joining, 0, (1, (("gap", 1, 0, 1),)))
            tell(self, (-5, 1), times_shown, TWO, joining, 1, (1, (("gap", 0, 1, 1),)))
            tell(self, (-4, 1), times_shown, TWO, joining, 0, (1, (("gap", 0, 1, 1),)))

    def test_a_gap_row_bears_on_others_side(self):
        # On one's side it bears less than nothing, and lets a far row stand there once more.
        for joining in (((0, 1),), ((1, 0),)):
            self.assertTrue(self.whichever(TWO, joining, 1, (2, (("far", 0, 1, 1), ("gap", 1, 0, 1)))))
            self.assertFalse(self.whichever(TWO, joining, 1, (1, (("far", 0, 1, 1), ("gap", 1, 0, 1)))))
            self.assertFalse(self.whichever(TWO, joining, 1, (1, (("far", 0, 1, 2), ("gap", 1, 0, 1)))))
            self.assertTrue(self.whichever(TWO, joining, 1, (3, (("far", 0, 1, 2), ("gap", 1, 0, 1)))))
            self.assertTrue(self.whichever(TWO, joining, 1, (2, (("far", 0, 1, 2), ("gap", 1, 0, 1),
                                                                 ("gap", 0, 1, 1)))))

    def test_only_wires_between_the_two(self):
        # Joined beneath the joint 4, the ends 0 and 1 have nothing of the wires above it between them.
        tell(self, (4 + 7, 1), times_shown, FOUR, EVEN, None, (1, (("far", 0, 1, 1), ("far", 2, 3, 1))))
        self.none(FOUR, EVEN, None, (1, (("far", 0, 2, 1), ("far", 1, 3, 1))))
        tell(self, (2 + 11, 2), times_shown, FOUR, EVEN, None, (2, (("far", 0, 2, 1), ("far", 1, 3, 1))))
        # A gap row of the same, too: it lies on the wires of the ends alone.
        self.shows(FOUR, EVEN, 2, (1, (("gap", 0, 1, 1), ("gap", 2, 3, 1))))
        self.none(FOUR, EVEN, 2, (1, (("gap", 0, 1, 1), ("gap", 2, 1, 1))))
        self.shows(FOUR, EVEN, 2, (1, (("gap", 0, 1, 1), ("far", 0, 2, 1))))

    def test_each_row_alone(self):
        chance = random.Random(111)
        for joining in one_way_joinings(4):
            for one, other in itertools.permutations(range(4), 2):
                for gap in (0, 3, 10 ** 7):
                    self.shows(FOUR, joining, gap, (1, (("gap", one, other, 1),)))
                    self.none(FOUR, joining, gap, (1, (("gap", one, other, 2),)))
                    self.shows(FOUR, joining, gap, (2, (("gap", one, other, 2),)))
                if one < other:
                    gap = chance.choice((0, 3, None))
                    self.shows(FOUR, joining, gap, (1, (("far", one, other, 1),)))
                    self.none(FOUR, joining, gap, (1, (("far", one, other, 2),)))
                    self.shows(FOUR, joining, gap, (3, (("far", one, other, 3),)))

    def test_just_the_bottom_and_one_more(self):
        chance = random.Random(112)
        for turn in range(250):
            many = chance.choice((2, 3, 4, 5, 24))
            ends = any_ends(chance, many, 9, 9)
            joining = any_joining(chance, many)
            gap = chance.choice((0, 1, 7, 10 ** 7, None))
            rows = any_rows(chance, many, gap, chance.randint(1, 12), chance.choice((1, 3, 10 ** 6)))
            most = max(times_borne(many, joining, rows))
            for bottom in (most - 1, most, most + 1):
                if bottom >= 1:
                    self.assertEqual(self.whichever(ends, joining, gap, (bottom, rows)), bottom >= most)

    def test_each_wire_counts(self):
        # One wire at a time bears just the bottom, and then one more.
        for many, joining in ((2, ((0, 1),)), (3, ((0, 1), (3, 2))), (4, EVEN), (5, chain_joining(5, True))):
            ends = any_ends(random.Random(many), many)
            for one, other in itertools.combinations(range(many), 2):
                for third, fourth in itertools.permutations(range(many), 2):
                    rows = (("far", one, other, 2), ("gap", third, fourth, 1))
                    most = max(times_borne(many, joining, rows))
                    self.assertIn(most, (1, 2, 3))
                    self.shows(ends, joining, 4, (most, rows))
                    if most > 1:
                        self.none(ends, joining, 4, (most - 1, rows))

    def test_rows_several_times(self):
        far = ("far", 0, 1, 1)
        gap = ("gap", 1, 0, 1)
        for many in (1, 2, 5, 400):
            tell(self, (4, 1), times_shown, TWO, ((0, 1),), None, (many, (far,) * many))
            tell(self, (3, 1), times_shown, TWO, ((0, 1),), 1, (many, (gap,) * many))
            self.none(TWO, ((0, 1),), 1, (many, (far,) * (many + 1)))
            self.none(TWO, ((0, 1),), 1, (many, (gap,) * (many + 1)))
            tell(self, (7, 2), times_shown, TWO, ((0, 1),), 1, (2 * many, (far, gap) * many))

    def test_the_order_of_rows(self):
        rows = (("far", 0, 1, 2), ("gap", 2, 0, 1), ("far", 1, 3, 1), ("gap", 3, 1, 2), ("far", 0, 1, 1))
        bottom = max(times_borne(4, EVEN, rows))
        told = as_pair(times_worth(FOUR, 2, (bottom, rows)))
        for other in itertools.permutations(rows):
            self.assertEqual(times_shown(FOUR, EVEN, 2, (bottom, other)), told)

    def test_no_gap_and_no_gap_rows(self):
        rows = (("far", 0, 1, 1), ("far", 0, 2, 1))
        self.shows(FOUR, EVEN, None, (2, rows))
        for one, other in itertools.permutations(range(4), 2):
            self.none(FOUR, EVEN, None, (9, (("gap", one, other, 1),)))
            self.none(FOUR, EVEN, None, (9, rows + (("gap", one, other, 1),)))
            self.none(FOUR, EVEN, None, (9, (("gap", one, other, 1),) + rows))
            # By the gap 0 they are right.
            self.shows(FOUR, EVEN, 0, (9, rows + (("gap", one, other, 1),)))

    def test_lowest_terms(self):
        ends = ((0, 0, 0, 0), (6, 0, 0, 0))
        for bottom, times, want in ((1, 1, (6, 1)), (2, 1, (3, 1)), (3, 1, (2, 1)), (4, 1, (3, 2)), (6, 1, (1, 1)),
                                    (9, 1, (2, 3)), (12, 1, (1, 2)), (4, 2, (3, 1)), (10 ** 15, 1, (3, 5 * 10 ** 14)),
                                    (10 ** 15, 10 ** 15, (6, 1)), (7, 1, (6, 7)), (7, 7, (6, 1))):
            tell(self, want, times_shown, ends, ((0, 1),), None, (bottom, (("far", 0, 1, times),)))

    def test_below_nought(self):
        ends = ((0, 0, 0, 0), (6, 0, 0, 0))
        for bottom, want in ((1, (-4, 1)), (2, (-2, 1)), (3, (-4, 3)), (4, (-1, 1)), (6, (-2, 3)), (8, (-1, 2))):
            tell(self, want, times_shown, ends, ((0, 1),), 4, (bottom, (("gap", 0, 1, 1),)))
            tell(self, want, times_shown, ends, ((0, 1),), 4, (bottom, (("gap", 1, 0, 1),)))
        # What far and gap rows are worth together is nothing.
        tell(self, (0, 1), times_shown, ends, ((0, 1),), 6, (2, (("far", 0, 1, 1), ("gap", 1, 0, 1))))
        tell(self, (0, 1), times_shown, ends, ((0, 1),), 0, (5, (("gap", 1, 0, 1),)))

    def test_great_numbers(self):
        ends = ((-MILLION, -MILLION, MILLION, 0), (MILLION, MILLION, 0, 0))
        great = 10 ** 15
        tell(self, (4 * MILLION, 1), times_shown, ends, ((0, 1),), None, (great, (("far", 0, 1, great),)))
        self.none(ends, ((0, 1),), None, (great - 1, (("far", 0, 1, great),)))
        self.none(ends, ((0, 1),), None, (great, (("far", 0, 1, great), ("far", 0, 1, 1))))
        tell(self, (-9 * MILLION, 1), times_shown, ends, ((0, 1),), 10 ** 7, (great, (("gap", 0, 1, great),)))
        tell(self, (-11 * MILLION, 1), times_shown, ends, ((0, 1),), 10 ** 7, (great, (("gap", 1, 0, great),)))
        self.shows(ends, ((0, 1),), 10 ** 7, (great, (("gap", 0, 1, great - 1),)))

    def test_24_ends(self):
        chance = random.Random(113)
        for joining in (chain_joining(24), chain_joining(24, True), any_joining(chance, 24)):
            ends = any_ends(chance, 24, MILLION, MILLION)
            for gap in (0, 5, 10 ** 7, None):
                rows = any_rows(chance, 24, gap, 1200, 10 ** 6)
                most = max(times_borne(24, joining, rows))
                self.shows(ends, joining, gap, (most, rows))
                self.none(ends, joining, gap, (most - 1, rows))

    def test_papers_that_are_told(self):
        chance = random.Random(114)
        for turn in range(60):
            many = chance.randint(1, 5)
            ends = any_ends(chance, many, 9, chance.choice((0, 9, 40)))
            joining = any_joining(chance, many)
            for gap in (0, 1, 8, None):
                tree, paper = least(ends, joining, gap)
                self.shows(ends, joining, gap, paper)
                told = times_shown(ends, joining, gap, paper)
                self.assertEqual(told, as_pair(fractions.Fraction(sum(tree[2]), tree[0])))
                # What is handed in again, over a greater bottom or taken apart, shows as it did.
                bottom, rows = paper
                twice = (2 * bottom, tuple(row[:3] + (2 * row[3],) for row in rows))
                self.assertEqual(times_shown(ends, joining, gap, twice), told)
                self.assertEqual(times_shown(ends, joining, gap, (2 * bottom, rows + rows[::-1])), told)

    def test_no_tree_has_less(self):
        chance = random.Random(115)
        near = 0
        for turn in range(60):
            many = chance.choice((2, 3, 4, 5, 8))
            ends = any_ends(chance, many, 5, chance.choice((0, 5)))
            joining = any_joining(chance, many)
            gap = chance.choice((0, 1, 3, None))
            wires = [fractions.Fraction(sum(lengths), grain)
                     for grain, lengths in trees_within(chance, ends, joining, gap)]
            for paper in range(40):
                rows = any_rows(chance, many, gap, chance.randint(1, 6), 3)
                paper = (max(1, max(times_borne(many, joining, rows))), rows)
                top, bottom = ask(self, times_shown, ends, joining, gap, paper)
                self.assertLessEqual(fractions.Fraction(top, bottom), min(wires), (ends, joining, gap, paper))
                near += fractions.Fraction(top, bottom) == min(wires)
        self.assertGreater(near, 0)

    def test_no_tree_of_many_lengths_has_less(self):
        # Two ends, all lengths of a small field, and all papers of few rows.
        for ends in (((0, 0, 0, 0), (2, 0, 0, 0)), ((0, 0, 3, 0), (1, 0, 0, 0)), ((0, 0, 0, 0), (0, 1, 2, 0))):
            for gap in (0, 1, None):
                wires = [fractions.Fraction(first + second, 2)
                         for first, second in itertools.product(range(9), repeat=2)
                         if not short_pairs(ends, ((0, 1),), 2, (first, second))
                         and (gap is None or spread(ends, ((0, 1),), 2, (first, second)) <= 2 * gap)]
                shown = [fractions.Fraction(*told) for told in self.all_shown(ends, gap)]
                self.assertEqual(max(shown), min(wires), (ends, gap))

    def all_shown(self, ends, gap):
        """What all papers of up to two of each row show, over 1 and 2."""
        for far, one, other, bottom in itertools.product((0, 1, 2), (0, 1, 2), (0, 1, 2), (1, 2)):
            rows = (("far", 0, 1, far), ("gap", 0, 1, one), ("gap", 1, 0, other))
            told = ask(self, times_shown, ends, ((0, 1),), gap, (bottom, tuple(row for row in rows if row[3] > 0)))
            if told is not None:
                yield told


class NoPapers(unittest.TestCase):

    def setUp(self):
        self.cases = []
        chance = random.Random(116)
        for many in (2, 4, 24):
            ends = any_ends(chance, many)
            joining = any_joining(chance, many)
            rows = (("far", 0, 1, 1), ("gap", 1, 0, 1), ("far", 0, many - 1, 2))
            self.cases.append((ends, joining, (9, rows)))
        for ends, joining, paper in self.cases:
            self.assertIsNotNone(times_shown(ends, joining, 3, paper))

    def none(self, ends, joining, thing, gap=3):
        self.assertIsNone(ask(self, times_shown, ends, joining, gap, thing), (ends, joining, repr(thing)[:200]))

    def with_row(self, paper, k, row):
        return paper[0], exchanged(paper[1], k, row)

    def test_one_end(self):
        ends = ((3, 4, 5, 6),)
        for gap in (0, 3, None):
            for row in (("far", 0, 0, 1), ("gap", 0, 0, 1), ("far", 0, 1, 1), ("gap", 0, 1, 1), ("far", -1, 0, 1), ()):
                self.none(ends, (), (1, (row,)), gap)
            for thing in NO_TUPLES + NO_NUMBERS + GREAT_THINGS + ((1, []), [1, ()], (0, ()), (True, ()), (1, None)):
                self.none(ends, (), thing, gap)

    def test_the_whole(self):
        for ends, joining, paper in self.cases:
            bottom, rows = paper
            for gap in (0, 3, None):
                for thing in NO_TUPLES + NO_NUMBERS + GREAT_THINGS:
                    self.none(ends, joining, thing, gap)
            for thing in (list(paper), (bottom,), (rows,), (bottom, rows, rows), (bottom, rows, ()), (rows, bottom),
                          (paper,), {bottom: rows}, repr(paper), rows, (bottom,) + rows):
                self.none(ends, joining, thing)

    def test_the_bottom(self):
        for ends, joining, paper in self.cases:
            for bottom in (0, -1, -9, -10 ** 15, -GREAT):
                self.none(ends, joining, (bottom, paper[1]))
                self.none(ends, joining, (bottom, ()))
            for bottom in NO_NUMBERS:
                self.none(ends, joining, (bottom, paper[1]))
                self.none(ends, joining, (bottom, ()))

    def test_the_rows(self):
        for ends, joining, paper in self.cases:
            bottom, rows = paper
            for thing in NO_TUPLES + (list(rows), [list(row) for row in rows], dict(enumerate(rows)), {rows: rows},
                                      (rows,), rows[0], ((),), (None,), ("far",), (("far", 0, 1),)):
                self.none(ends, joining, (bottom, thing))

    def test_a_row_of_another_kind(self):
        for ends, joining, paper in self.cases:
            for k, row in enumerate(paper[1]):
                for thing in NO_TUPLES + NO_NUMBERS + (
                        list(row), row[:3], row[1:], row + (1,), row + row, (row,), dict(enumerate(row)),
                        {row: row}, " ".join(str(part) for part in row), (row[0], row[1:]),
                        (row[0], [row[1]], row[2], row[3])):
                    self.none(ends, joining, self.with_row(paper, k, thing))
                    self.none(ends, joining, (paper[0], paper[1] + (thing,)))

    def test_another_word(self):
        for ends, joining, paper in self.cases:
            for k, row in enumerate(paper[1]):
                for word in NO_NUMBERS + (
                        0, 1, "Far", "FAR", "far ", " far", "fa", "farr", "Gap", "gap ", "gaps", "near", "far\n",
                        "gapfar", ("far",), ["far"], ["gap"], {"far": "gap"}, 10 ** 59):
                    self.none(ends, joining, self.with_row(paper, k, exchanged(row, 0, word)))

    def test_numbers_of_other_kinds(self):
        for ends, joining, paper in self.cases:
            for k, row in enumerate(paper[1]):
                for at in (1, 2, 3):
                    for thing in NO_NUMBERS + (str(row[at]), (row[at],), [row[at]]):
                        self.none(ends, joining, self.with_row(paper, k, exchanged(row, at, thing)))

    def test_truths_in_the_place_of_their_numbers(self):
        ends, joining, paper = self.cases[0]
        for row in (("far", 0, 1, 1), ("gap", 0, 1, 1), ("gap", 1, 0, 1)):
            self.assertIsNotNone(times_shown(ends, joining, 3, (1, (row,))))
            for at in (1, 2, 3):
                self.none(ends, joining, (1, (exchanged(row, at, bool(row[at])),)))
            self.none(ends, joining, (True, (row,)))

    def test_times(self):
        for ends, joining, paper in self.cases:
            for k, row in enumerate(paper[1]):
                for times in (0, -1, -2, -10 ** 15, -GREAT):
                    self.none(ends, joining, self.with_row(paper, k, exchanged(row, 3, times)))

    def test_one_not_below_other_in_a_far_row(self):
        for ends, joining, paper in self.cases:
            many = len(ends)
            for one, other in itertools.product(range(min(many, 6)), repeat=2):
                told = ask(self, times_shown, ends, joining, 3, (9, (("far", one, other, 1),)))
                self.assertEqual(told is None, one >= other)
                told = ask(self, times_shown, ends, joining, 3, (9, (("gap", one, other, 1),)))
                self.assertEqual(told is None, one == other)

    def test_ends_that_are_not_there(self):
        for ends, joining, paper in self.cases:
            many = len(ends)
            self.none(ends, joining, (9, (("far", -2, -1, 1),)))
            self.none(ends, joining, (9, (("far", many, many + 1, 1),)))
            for number in (-1, -2, -many, many, many + 1, 2 * many - 2, 2 * many - 1, GREAT, -GREAT):
                for within in (0, many - 1):
                    self.none(ends, joining, (9, (("far", min(number, within), max(number, within), 1),)))
                    self.none(ends, joining, (9, (("gap", number, within, 1),)))
                    self.none(ends, joining, (9, (("gap", within, number, 1),)))

    def test_a_right_paper_by_a_tree(self):
        # The cases are right ones, told trees the witnesses.
        for ends, joining, paper in self.cases:
            tree = even_tree(ends, joining)
            self.assertTrue(tree_holds(ends, joining, 3, tree))
            top, bottom = times_shown(ends, joining, 3, paper)
            self.assertLessEqual(fractions.Fraction(top, bottom), fractions.Fraction(sum(tree[2]), 2))


if __name__ == "__main__":
    unittest.main()
