"""Papers of layers: points 25 and 26, of point 3 what they show, and of point 2 what is of anything."""

import itertools
import random
import unittest

from evenwires.best import best_joining
from evenwires.even import even_wire
from evenwires.layers import layers_for, layers_shown
from tests.helpers import (
    GREAT_THINGS, NO_NUMBERS, NO_TUPLES, any_ends, any_joining, ask, even_wires, exchanged, half_steps, least_wire,
    one_way_joinings, tell)

MILLION = 10 ** 6
GREAT = 10 ** 60 - 1
CORNERS = tuple((x, y, start, 1) for x in (-MILLION, MILLION) for y in (-MILLION, MILLION) for start in (0, MILLION))


def at(*places):
    """Ends at these places, with neither starts nor loads."""
    return tuple((x, y, 0, 0) for x, y in places)


def along(*columns):
    return at(*[(x, 0) for x in columns])


def chosen_told(ends):
    """The ends as they are chosen, and d(2), d(3) and so on, by what is told of them."""
    many = len(ends)
    most = max(half_steps(ends, *pair) for pair in itertools.combinations(range(many), 2))
    for one, other in itertools.combinations(range(many), 2):
        if half_steps(ends, one, other) == most:
            break
    chosen = [one, other]
    wants = {2: most}
    while len(chosen) < many:
        best = None
        for end in range(many):
            if end not in chosen:
                least = min(half_steps(ends, end, other) for other in chosen)
                if best is None or least > best[0]:
                    best = (least, end)
        chosen.append(best[1])
        wants[len(chosen)] = best[0]
    return chosen, wants


def layers_told(ends):
    """The paper by what is told of it."""
    many = len(ends)
    if many == 1:
        return ()
    chosen, wants = chosen_told(ends)
    wants[many + 1] = 0
    rows = []
    for k in range(many, 1, -1):
        low = max(wants[k + 1], 2 * max(ends[end][2] for end in chosen[:k]))
        if low < wants[k]:
            rows.append((low, wants[k], tuple(sorted(chosen[:k]))))
    return tuple(rows)


def is_paper(ends, paper):
    """Whether a tuple of rows of the right kinds is a paper, told apart from the program."""
    before = 0
    for low, high, some in paper:
        if not before <= low < high:
            return False
        if any(half_steps(ends, *pair) < high for pair in itertools.combinations(some, 2)):
            return False
        if any(2 * ends[end][2] > low for end in some):
            return False
        before = high
    return True


def shown_by(paper):
    return sum((high - low) * len(some) for low, high, some in paper)


def any_paper(chance, ends, most):
    """Some rows of the right kinds, that may or may not make a paper."""
    rows = []
    level = 0
    for turn in range(chance.randint(1, 4)):
        low = level + chance.randint(0, most)
        level = low + chance.randint(1, most)
        size = chance.randint(2, len(ends))
        rows.append((low, level, tuple(sorted(chance.sample(range(len(ends)), size)))))
    return tuple(rows)


def many_ends(seed):
    """Ends of each number, of several kinds."""
    chance = random.Random(seed)
    for many in range(1, 25):
        for wide, starts in ((1, 0), (3, 0), (3, 2), (9, 9), (1000, 5), (0, 3), (0, 0), (MILLION, MILLION), (5, 500)):
            yield any_ends(chance, many, wide, starts)


class LayersFor(unittest.TestCase):

    def told(self, ends):
        paper = ask(self, layers_for, ends)
        self.assertEqual(repr(paper), repr(layers_told(ends)), ends)
        self.assertTrue(is_paper(ends, paper), ends)
        tell(self, shown_by(paper), layers_shown, ends, paper)

    def test_one_end(self):
        for start in (0, 5, MILLION):
            tell(self, (), layers_for, ((3, 4, start, 6),))

    def test_two_ends(self):
        tell(self, ((0, 7, (0, 1)),), layers_for, ((0, 0, 0, 0), (3, 4, 0, 0)))
        tell(self, ((4, 9, (0, 1)),), layers_for, ((0, 0, 2, 0), (3, 4, 0, 0)))
        tell(self, ((4, 9, (0, 1)),), layers_for, ((0, 0, 0, 0), (3, 4, 2, 0)))
        tell(self, ((12, 13, (0, 1)),), layers_for, ((0, 0, 0, 0), (3, 4, 6, 0)))
        # The start is as much as the way, and more: no row is left.
        tell(self, (), layers_for, ((0, 0, 0, 0), (3, 4, 7, 0)))
        tell(self, (), layers_for, ((0, 0, 8, 0), (3, 4, 0, 0)))
        tell(self, (), layers_for, ((5, 5, 0, 0), (5, 5, 0, 0)))

    def test_three_ends(self):
        # 0 and 2 first, 10 apart; then 1, 3 from the nearer one.
        tell(self, ((0, 3, (0, 1, 2)), (3, 10, (0, 2))), layers_for, along(0, 3, 10))
        tell(self, ((0, 3, (0, 1, 2)), (3, 10, (0, 2))), layers_for, along(10, 7, 0))
        tell(self, ((0, 3, (0, 1, 2)), (3, 10, (1, 2))), layers_for, along(3, 0, 10))

    def test_five_ends(self):
        # 0 and 4 at 0 and 20, then 2 at 9, then 3 at 16 (4 off), then 1 at 2.
        tell(self, ((0, 2, (0, 1, 2, 3, 4)), (2, 4, (0, 2, 3, 4)), (4, 9, (0, 2, 4)), (9, 20, (0, 4))),
             layers_for, along(0, 2, 9, 16, 20))

    def test_ties_of_the_first_two(self):
        # Both diagonals of a square, and all pairs of three ends.
        square = at((0, 0), (1, 0), (1, 1), (0, 1))
        tell(self, ((0, 1, (0, 1, 2, 3)), (1, 2, (0, 2))), layers_for, square)
        tell(self, ((0, 1, (0, 1, 2, 3)), (1, 2, (0, 1))), layers_for, at((0, 0), (1, 1), (1, 0), (0, 1)))
        tell(self, ((0, 1, (0, 1, 2, 3)), (1, 2, (0, 3))), layers_for, at((0, 0), (1, 0), (0, 1), (1, 1)))
        tell(self, ((0, 2, (0, 1, 2)),), layers_for, at((0, 0), (1, 1), (1, -1)))
        # (0, 3) and (1, 2) want as much: the first pair is the first by its first end.
        tell(self, ((0, 4, (0, 1, 2, 3)), (4, 10, (0, 3))), layers_for, at((0, 0), (4, 0), (0, 6), (4, 6)))

    def test_ties_of_later_ones(self):
        # Of the ends 1 and 2, alike far from the first two, the first is chosen ahead.
        ends = along(0, 5, 5, 10)
        tell(self, ((0, 5, (0, 1, 3)), (5, 10, (0, 3))), layers_for, ends)
        ends = along(0, 4, 6, 10)
        tell(self, ((0, 2, (0, 1, 2, 3)), (2, 4, (0, 1, 3)), (4, 10, (0, 3))), layers_for, ends)
        tell(self, ((0, 2, (0, 1, 2, 3)), (2, 4, (0, 1, 3)), (4, 10, (0, 3))), layers_for, along(0, 6, 4, 10))

    def test_rows_left_out(self):
        # All ends at two places: only the first two have a row.
        tell(self, ((0, 7, (0, 1)),), layers_for, at((0, 0), (3, 4), (0, 0), (3, 4)))
        # The start of the last one chosen is as much as all that it wants.
        tell(self, ((2, 10, (0, 2)),), layers_for, ((0, 0, 0, 0), (1, 0, 1, 0), (10, 0, 0, 0)))
        # A great start among the first two leaves none; one of a later end leaves the upper rows.
        tell(self, (), layers_for, ((0, 0, 50, 0), (1, 0, 1, 0), (10, 0, 0, 0)))
        paper = layers_told(((0, 0, 0, 0), (30, 0, 0, 0), (11, 0, 6, 0), (14, 0, 0, 0)))
        self.assertEqual([len(some) for low, high, some in paper], [3, 2])
        self.told(((0, 0, 0, 0), (30, 0, 0, 0), (11, 0, 6, 0), (14, 0, 0, 0)))

    def test_ends_at_one_place(self):
        for many in range(2, 25):
            tell(self, (), layers_for, ((-3, 8, 0, 0),) * many)
            tell(self, (), layers_for, ((-3, 8, 5, 0),) * many)
            self.told(tuple((-3, 8, end, 0) for end in range(many)))

    def test_every_order_of_five(self):
        places = ((0, 3), (0, 1), (2, 1), (2, 1), (1, 3))
        for order in itertools.permutations(places):
            self.told(at(*order))
            self.told(tuple((x, y, x, 0) for x, y in order))

    def test_many(self):
        for ends in many_ends(191):
            self.told(ends)

    def test_grids(self):
        chance = random.Random(192)
        for wide, high in ((24, 1), (12, 2), (6, 4), (5, 5)):
            places = [(x, y) for x in range(wide) for y in range(high)][:24]
            for turn in range(4):
                chance.shuffle(places)
                self.told(at(*places))

    def test_24_ends_at_the_bounds(self):
        chance = random.Random(193)
        self.told(CORNERS * 3)
        self.told(any_ends(chance, 24, MILLION, 0))
        self.told(any_ends(chance, 24, MILLION, 1000))

    def test_rows_are_not_few(self):
        # What the tests above look at has rows of each number of ends.
        sizes = {len(some) for ends in many_ends(191) for low, high, some in layers_told(ends)}
        self.assertEqual(sizes, set(range(2, 25)))

    def test_no_more_than_the_best(self):
        chance = random.Random(194)
        just = 0
        for turn in range(60):
            ends = any_ends(chance, chance.randint(1, 7), 9, (0, 3, 30)[turn % 3])
            shown = layers_shown(ends, layers_for(ends))
            wire = even_wire(ends, best_joining(ends)[0])
            self.assertLessEqual(shown, wire, ends)
            just += shown == wire
        self.assertGreater(just, 0)


class LayersShown(unittest.TestCase):

    def told(self, ends, paper):
        tell(self, shown_by(paper) if is_paper(ends, paper) else None, layers_shown, ends, paper)

    def test_none_at_all(self):
        for many in (1, 2, 7, 24):
            tell(self, 0, layers_shown, any_ends(random.Random(many), many), ())

    def test_two_ends(self):
        ends = ((0, 0, 2, 0), (3, 4, 1, 0))
        # Both want 10; the greater start is 4 half steps.
        tell(self, 12, layers_shown, ends, ((4, 10, (0, 1)),))
        tell(self, 10, layers_shown, ends, ((5, 10, (0, 1)),))
        tell(self, 10, layers_shown, ends, ((4, 9, (0, 1)),))
        tell(self, None, layers_shown, ends, ((3, 10, (0, 1)),))
        tell(self, None, layers_shown, ends, ((4, 11, (0, 1)),))
        tell(self, 12, layers_shown, ends, ((4, 7, (0, 1)), (7, 10, (0, 1))))
        tell(self, 10, layers_shown, ends, ((4, 6, (0, 1)), (7, 10, (0, 1))))
        tell(self, None, layers_shown, ends, ((4, 7, (0, 1)), (6, 10, (0, 1))))

    def test_low_at_twice_a_start(self):
        chance = random.Random(201)
        for turn in range(40):
            many = chance.randint(2, 24)
            ends = any_ends(chance, many, 100, 20)
            some = tuple(sorted(chance.sample(range(many), chance.randint(2, min(many, 5)))))
            start = 2 * max(ends[end][2] for end in some)
            high = min(half_steps(ends, *pair) for pair in itertools.combinations(some, 2))
            if start < high:
                tell(self, (high - start) * len(some), layers_shown, ends, ((start, high, some),))
                if start > 0:
                    tell(self, None, layers_shown, ends, ((start - 1, high, some),))

    def test_each_start_counts(self):
        for place in range(4):
            ends = tuple((100 * end, 0, 5 if end == place else 0, 0) for end in range(4))
            tell(self, 4, layers_shown, ends, ((10, 11, (0, 1, 2, 3)),))
            tell(self, None, layers_shown, ends, ((9, 11, (0, 1, 2, 3)),))
            # Of others it is nothing to the row.
            others = tuple(end for end in range(4) if end != place)
            tell(self, 33, layers_shown, ends, ((0, 11, others),))

    def test_high_at_what_two_want(self):
        chance = random.Random(202)
        for turn in range(40):
            many = chance.randint(2, 24)
            ends = any_ends(chance, many, 30, 3)
            some = tuple(sorted(chance.sample(range(many), chance.randint(2, min(many, 6)))))
            high = min(half_steps(ends, *pair) for pair in itertools.combinations(some, 2))
            if high > 6:
                tell(self, (high - 6) * len(some), layers_shown, ends, ((6, high, some),))
                tell(self, None, layers_shown, ends, ((6, high + 1, some),))

    def test_each_pair_counts(self):
        # Of four ends just two are near to each other.
        for pair in itertools.combinations(range(4), 2):
            ends = [(40 * end, 0, 0, 0) for end in range(4)]
            x = ends[pair[0]][0]
            ends[pair[1]] = (x, 7, 0, 0)
            ends = tuple(ends)
            tell(self, 28, layers_shown, ends, ((0, 7, (0, 1, 2, 3)),))
            tell(self, None, layers_shown, ends, ((0, 8, (0, 1, 2, 3)),))

    def test_an_end_with_itself_is_not_asked(self):
        # Twice a start is less than high, which is no matter.
        tell(self, 2 * 100, layers_shown, along(0, 100), ((0, 100, (0, 1)),))

    def test_a_low_at_the_high_before(self):
        ends = along(0, 100, 200, 300)
        for low, want in ((40, 4 * 40 + 2 * 20), (41, 4 * 40 + 2 * 19), (39, None), (0, None), (59, 162)):
            tell(self, want, layers_shown, ends, ((0, 40, (0, 1, 2, 3)), (low, 60, (1, 3))))
        # Of three rows also the last one.
        rows = ((0, 10, (0, 1)), (10, 20, (1, 2)), (20, 30, (2, 3)))
        tell(self, 60, layers_shown, ends, rows)
        tell(self, None, layers_shown, ends, rows[:2] + ((19, 30, (2, 3)),))
        tell(self, None, layers_shown, ends, rows[:1] + ((9, 20, (1, 2)),) + rows[2:])
        tell(self, None, layers_shown, ends, ((0, 11, (0, 1)),) + rows[1:])

    def test_rows_in_another_order(self):
        ends = along(0, 100, 200, 300)
        rows = ((0, 10, (0, 1)), (10, 20, (0, 1, 2, 3)), (25, 30, (2, 3)))
        for order in itertools.permutations(rows):
            tell(self, 70 if order == rows else None, layers_shown, ends, order)

    def test_rows_need_not_be_fewer_and_fewer(self):
        ends = along(0, 100, 200, 300)
        tell(self, 2 * 5 + 4 * 5 + 3 * 5, layers_shown, ends, ((0, 5, (1, 2)), (5, 10, (0, 1, 2, 3)), (15, 20, (0, 1, 3))))

    def test_many_rows(self):
        ends = along(*[1000 * end for end in range(24)])
        every = tuple(range(24))
        paper = tuple((k, k + 1, every) for k in range(270))
        tell(self, 270 * 24, layers_shown, ends, paper)
        tell(self, None, layers_shown, ends, paper + ((269, 271, every),))

    def test_papers_of_any_hand(self):
        chance = random.Random(203)
        right = 0
        for turn in range(600):
            ends = any_ends(chance, chance.choice((2, 3, 4, 6, 24)), 12, (0, 1, 4)[turn % 3])
            paper = any_paper(chance, ends, 6)
            right += is_paper(ends, paper)
            self.told(ends, paper)
        self.assertGreater(right, 60)

    def test_no_joining_has_less(self):
        chance = random.Random(204)
        right = 0
        for turn in range(200):
            many = chance.choice((2, 3, 4))
            ends = any_ends(chance, many, 8, (0, 1, 4)[turn % 3])
            least = min(least_wire(ends, joining) for joining in one_way_joinings(many))
            for paper in [any_paper(chance, ends, 5) for hand in range(5)] + [layers_for(ends)]:
                shown = layers_shown(ends, paper)
                if shown is not None:
                    right += 1
                    self.assertLessEqual(shown, least, (ends, paper))
        self.assertGreater(right, 200)

    def test_no_joining_of_24_has_less(self):
        chance = random.Random(205)
        for turn in range(10):
            ends = any_ends(chance, 24, (9, MILLION)[turn % 2], (0, 9)[turn % 2])
            shown = layers_shown(ends, layers_for(ends))
            for joining in range(10):
                self.assertLessEqual(shown, even_wire(ends, any_joining(chance, 24)))

    def test_against_all_even_trees(self):
        chance = random.Random(206)
        for turn in range(6):
            ends = any_ends(chance, 3, 1, turn % 2)
            least = min(min(even_wires(ends, joining)[-1].values()) for joining in one_way_joinings(3))
            for low, high, some in itertools.product(range(4), range(5), ((0, 1), (0, 2), (1, 2), (0, 1, 2))):
                shown = layers_shown(ends, ((low, high, some),))
                self.assertTrue(shown is None or shown <= least, ends)

    def test_great_numbers(self):
        ends = (CORNERS[0], CORNERS[6])
        tell(self, 8 * MILLION, layers_shown, ends, ((0, 4 * MILLION, (0, 1)),))
        tell(self, None, layers_shown, ends, ((0, 4 * MILLION + 1, (0, 1)),))
        for high in (10 ** 15, GREAT):
            tell(self, None, layers_shown, ends, ((0, high, (0, 1)),))
            tell(self, None, layers_shown, ends, ((high - 1, high, (0, 1)),))


class NoPapers(unittest.TestCase):

    def setUp(self):
        chance = random.Random(207)
        self.cases = [(along(0, 3, 10), ((0, 3, (0, 1, 2)), (3, 10, (0, 2)))), (along(0, 5), ((1, 4, (0, 1)),))]
        for many in (4, 7, 24):
            ends = any_ends(chance, many, 40, 1)
            self.cases.append((ends, layers_for(ends)))
        for ends, paper in self.cases:
            self.assertIsNotNone(layers_shown(ends, paper))
            self.assertGreater(len(paper), 0)

    def none(self, ends, thing):
        self.assertIsNone(ask(self, layers_shown, ends, thing), (ends, repr(thing)[:200]))

    def test_of_one_end(self):
        ends = ((3, 4, 0, 6),)
        for thing in ((0, 1, (0, 0)), (0, 1, (0,)), (0, 1, ()), (0, 1, (0, 1)), (0, 1, (-1, 0)), (), (None,), None, 0):
            self.none(ends, (thing,))

    def test_the_whole(self):
        for ends, paper in self.cases + [(((3, 4, 0, 6),), ())]:
            for thing in NO_TUPLES + tuple(thing for thing in NO_NUMBERS + GREAT_THINGS if thing != ()):
                self.none(ends, thing)
            for thing in (list(paper), [list(row) for row in paper], dict(enumerate(paper)), repr(paper), (paper,) * 3):
                self.none(ends, thing)

    def test_numbers_below_nought(self):
        for ends, paper in self.cases:
            low, high, some = paper[0]
            for number in (-1, -2, -10 ** 15, -GREAT):
                self.none(ends, ((number, high, some),))
                self.none(ends, ((number, 0, some),))
                self.none(ends, ((low, number, some),))
                self.none(ends, ((number, number + 1, some),))
        # Without starts nothing else is wrong with it.
        self.none(along(0, 100), ((-1, 1, (0, 1)),))

    def test_low_not_below_high(self):
        for ends, paper in self.cases:
            for k, (low, high, some) in enumerate(paper):
                self.none(ends, exchanged(paper, k, (low, low, some)))
                self.none(ends, exchanged(paper, k, (high, high, some)))
                self.none(ends, exchanged(paper, k, (high, low, some)))
                self.none(ends, ((high, low, some),))

    def test_some_not_rising(self):
        for ends, paper in self.cases:
            for k, (low, high, some) in enumerate(paper):
                for other in list(itertools.permutations(some[:5]))[1:6]:
                    self.none(ends, exchanged(paper, k, (low, high, other + some[5:])))
                self.none(ends, exchanged(paper, k, (low, high, some[::-1])))

    def test_too_few_ends(self):
        for ends, paper in self.cases:
            for k, (low, high, some) in enumerate(paper):
                for other in ((), some[:1], some[-1:]):
                    self.none(ends, exchanged(paper, k, (low, high, other)))
                    self.none(ends, ((low, high, other),))

    def test_an_end_twice(self):
        for ends, paper in self.cases:
            for k, (low, high, some) in enumerate(paper):
                for place in range(len(some)):
                    other = some[:place] + some[place:place + 1] + some[place:]
                    self.none(ends, exchanged(paper, k, (low, high, other)))
        # High is no more than even an end with itself wants.
        self.none(((0, 0, 5, 0), (90, 0, 5, 0)), ((8, 10, (0, 0, 1)),))
        self.none(((0, 0, 5, 0), (90, 0, 5, 0)), ((10, 11, (0, 0)),))
        self.none(((0, 0, 0, 0), (0, 0, 0, 0)), ((0, 1, (0, 0)),))

    def test_an_end_that_is_not_there(self):
        for ends, paper in self.cases:
            many = len(ends)
            for k, (low, high, some) in enumerate(paper):
                for number in (-1, -many, many, many + 1, GREAT, -GREAT):
                    self.none(ends, exchanged(paper, k, (low, high, tuple(sorted(some + (number,))))))
                    for place in range(len(some)):
                        self.none(ends, exchanged(paper, k, (low, high, exchanged(some, place, number))))
        # The end -1 would be one that is far off, if it were counted from behind.
        self.none(along(0, 100, 200), ((0, 50, (-1, 0)),))
        self.none(along(0, 100, 200), ((0, 50, (-2, -1)),))

    def test_numbers_of_other_kinds(self):
        for ends, paper in self.cases:
            for k in {0, len(paper) - 1}:
                for place in (0, 1):
                    for thing in NO_NUMBERS + (str(paper[k][place]), (paper[k][place],), [paper[k][place]]):
                        self.none(ends, exchanged(paper, k, exchanged(paper[k], place, thing)))

    def test_some_of_other_kinds(self):
        for ends, paper in self.cases:
            for k in {0, len(paper) - 1}:
                low, high, some = paper[k]
                for thing in NO_TUPLES + (list(some), dict(enumerate(some)), dict.fromkeys(some), (some,), repr(some),
                                          "".join(str(end) for end in some), (list(some),), tuple((e,) for e in some)):
                    self.none(ends, exchanged(paper, k, (low, high, thing)))

    def test_ends_of_other_kinds(self):
        for ends, paper in self.cases:
            for k in {0, len(paper) - 1}:
                low, high, some = paper[k]
                for place in range(len(some)):
                    for thing in NO_NUMBERS + (str(some[place]), (some[place],), [some[place]]):
                        self.none(ends, exchanged(paper, k, (low, high, exchanged(some, place, thing))))

    def test_rows_of_other_kinds(self):
        for ends, paper in self.cases:
            for k in {0, len(paper) - 1}:
                low, high, some = paper[k]
                for thing in NO_TUPLES + NO_NUMBERS + (
                        list(paper[k]), (low, high), (high, some), (low, high, some, ()), (low, high) + some,
                        (some, low, high), (paper[k],), {low: high}, ((low, high), some), repr(paper[k]), paper):
                    self.none(ends, exchanged(paper, k, thing))
                    self.none(ends, paper + (thing,))

    def test_truths_in_the_place_of_their_numbers(self):
        ends = along(0, 5)
        row = (0, 1, (0, 1))
        self.assertEqual(layers_shown(ends, (row,)), 2)
        for other in ((False, 1, (0, 1)), (0, True, (0, 1)), (0, 1, (False, 1)), (0, 1, (0, True))):
            self.none(ends, (other,))


if __name__ == "__main__":
    unittest.main()
