"""Rows of places: points 9 and 10, and of point 3 the sentence on a joint's row."""

import itertools
import random
import unittest

from evenwires.rows import joined, row_of, rows_of, wanted
from tests.helpers import (
    all_joinings, any_ends, any_joining, ask, beneath_each, chain_joining, even_wires, exchanged,
    field_about, half_steps, least_stands, spot_far, spots_of, tell)

MILLION = 10 ** 6


def choices(many):
    """All rising tuples of ends, with one at least."""
    for size in range(1, many + 1):
        yield from itertools.combinations(range(many), size)


class Wanted(unittest.TestCase):

    def test_two_ends(self):
        ends = ((0, 0, 0, 9), (3, 4, 0, 9), (-1, 2, 5, 9), (0, 0, 7, 9))
        for one, other, want in (
                (0, 1, 7), (0, 2, 8), (1, 2, 11), (0, 3, 7), (1, 3, 14), (2, 3, 15)):
            tell(self, want, wanted, ends, one, other)
            tell(self, want, wanted, ends, other, one)

    def test_an_end_and_itself(self):
        ends = ((0, 0, 0, 3), (3, 4, 5, 0), (-MILLION, MILLION, MILLION, 1))
        tell(self, 0, wanted, ends, 0, 0)
        tell(self, 10, wanted, ends, 1, 1)
        tell(self, 2 * MILLION, wanted, ends, 2, 2)

    def test_at_the_bounds(self):
        ends = ((-MILLION, -MILLION, MILLION, 0), (MILLION, MILLION, MILLION, 0))
        tell(self, 6 * MILLION, wanted, ends, 0, 1)
        tell(self, 6 * MILLION, wanted, ends, 1, 0)


class RowOf(unittest.TestCase):

    def test_one_end(self):
        tell(self, (0, (0, 0, 0, 0)), row_of, ((0, 0, 0, 0),), (0,))
        tell(self, (10, (14, 14, -2, -2)), row_of, ((3, 4, 5, 6),), (0,))
        tell(self, (2, (2, 2, 10, 10)), row_of, ((9, 9, 9, 9), (3, -2, 1, 6)), (1,))

    def test_two_ends(self):
        tell(self, (1, (1, 1, 1, 1)), row_of, ((0, 0, 0, 0), (1, 0, 0, 0)), (0, 1))
        tell(self, (2, (2, 2, -2, 2)), row_of, ((0, 0, 0, 0), (1, 1, 0, 0)), (0, 1))
        tell(self, (2, (-2, 2, 2, 2)), row_of, ((0, 0, 0, 0), (1, -1, 0, 0)), (0, 1))
        tell(self, (5, (3, 3, 3, 3)), row_of, ((0, 0, 1, 0), (4, 0, 0, 0)), (0, 1))

    def test_ends_at_one_place(self):
        ends = ((1, 2, 0, 0), (1, 2, 3, 0), (1, 2, 3, 1), (1, 2, 1, 0))
        tell(self, (6, (6, 6, -2, -2)), row_of, ends, (0, 1, 2, 3))
        tell(self, (6, (6, 6, -2, -2)), row_of, ends, (1, 2))
        tell(self, (3 + 1 - 2, (6, 6, -2, -2)), row_of, ends, (0, 3))

    def test_a_start_that_alone_makes_the_height(self):
        ends = ((0, 0, 0, 0), (2, 1, 0, 0), (5, 5, 100, 0))
        tell(self, (200, (20, 20, 0, 0)), row_of, ends, (0, 1, 2))
        tell(self, (200, (20, 20, 0, 0)), row_of, ends, (1, 2))
        # Just so great that it takes as much as the way, and one less.
        tell(self, (6, (6, 6, 6, 6)), row_of, ((0, 0, 0, 0), (3, 0, 3, 0)), (0, 1))
        tell(self, (5, (5, 5, 5, 5)), row_of, ((0, 0, 0, 0), (3, 0, 2, 0)), (0, 1))

    def test_ends_on_one_line(self):
        ends = ((0, 0, 0, 0), (4, 0, 0, 0), (10, 0, 0, 0), (7, 0, 0, 0))
        tell(self, (10, (10, 10, 10, 10)), row_of, ends, (0, 1, 2, 3))
        tell(self, (6, (14, 14, 14, 14)), row_of, ends, (1, 2, 3))

    def test_ends_on_a_slanted_line(self):
        tell(self, (10, (10, 10, -10, 10)), row_of, ((0, 0, 0, 0), (2, 2, 0, 0), (5, 5, 0, 0)), (0, 1, 2))
        tell(self, (10, (-10, 10, 10, 10)), row_of, ((0, 0, 0, 0), (2, -2, 0, 0), (5, -5, 0, 0)), (0, 1, 2))

    def test_only_the_chosen_ends(self):
        ends = ((0, 0, 0, 0), (1, 0, 0, 0), (100, 100, 50, 0))
        tell(self, (1, (1, 1, 1, 1)), row_of, ends, (0, 1))

    def test_at_the_bounds(self):
        corners = tuple((x, y, MILLION, MILLION) for x in (-MILLION, MILLION) for y in (-MILLION, MILLION))
        tell(self, (6 * MILLION, (0, 0, 0, 0)), row_of, corners, (0, 1, 2, 3))
        tell(self, (4 * MILLION, (-2 * MILLION, -2 * MILLION, -2 * MILLION, -2 * MILLION)),
             row_of, corners, (0, 1))
        tell(self, (6 * MILLION, (0, 0, -4 * MILLION, 4 * MILLION)), row_of, corners, (0, 3))

    def gone_through(self, ends, some):
        height, box = ask(self, row_of, ends, some)
        self.assertEqual(height, max(half_steps(ends, one, other) for one in some for other in some))
        near = {spot for spot in field_about(ends, some, height + 1)
                if all(spot_far(spot, ends[end]) <= height - 2 * ends[end][2] for end in some)}
        self.assertTrue(near)
        self.assertEqual(spots_of(box), near, (ends, some))
        self.assertTrue(box[0] == box[1] or box[2] == box[3], (ends, some))
        self.assertTrue(box[0] <= box[1] and box[2] <= box[3], (ends, some))

    def test_against_all_spots_of_a_small_field(self):
        chance = random.Random(41)
        for starts in (0, 2, 5):
            for turn in range(8):
                ends = any_ends(chance, 4, 2, starts)
                for some in choices(4):
                    self.gone_through(ends, some)

    def test_two_ends_against_all_spots(self):
        places = list(itertools.product(range(3), repeat=2))
        for (x, y), start in itertools.product(places, (0, 1, 3)):
            self.gone_through(((1, 1, 1, 0), (x, y, start, 0)), (0, 1))


class Joined(unittest.TestCase):

    def test_two_ends(self):
        tell(self, (2, (2, 2, -2, 2), 2, 2), joined, (0, (0, 0, 0, 0)), (0, (4, 4, 0, 0)))
        tell(self, (4, (4, 4, 4, 4), 4, 0), joined, (0, (0, 0, 0, 0)), (4, (4, 4, 4, 4)))
        tell(self, (4, (4, 4, 4, 4), 0, 4), joined, (4, (4, 4, 4, 4)), (0, (0, 0, 0, 0)))
        tell(self, (5, (3, 3, 3, 3), 3, 5), joined, (2, (0, 0, 0, 0)), (0, (8, 8, 8, 8)))

    def test_a_wire_longer_than_any_way(self):
        tell(self, (20, (4, 4, 4, 4), 20, 0), joined, (0, (0, 0, 0, 0)), (20, (4, 4, 4, 4)))
        tell(self, (20, (4, 4, 4, 4), 0, 20), joined, (20, (4, 4, 4, 4)), (0, (0, 0, 0, 0)))
        # Of the ends at (0, 0), (1, 0) and at (0, 0), (2, 2), these two with the start 5.
        tell(self, (14, (4, 4, -4, 4), 13, 0), joined, (1, (1, 1, 1, 1)), (14, (4, 4, -4, 4)))

    def test_a_row_and_itself(self):
        for row in ((0, (0, 0, 0, 0)), (10, (14, 14, -2, -2)), (2, (2, 2, -2, 2))):
            tell(self, row + (0, 0), joined, row, row)

    def test_stretches(self):
        # Of the ends at (0, 0), (1, 1) and at (4, 4), (5, 5).
        tell(self, (10, (10, 10, -10, 10), 8, 8), joined, (2, (2, 2, -2, 2)), (2, (18, 18, -2, 2)))
        # Of the ends at (0, 0), (1, 1) and at (3, 2), which lies beside the stretch.
        tell(self, (5, (5, 5, -3, 5), 3, 5), joined, (2, (2, 2, -2, 2)), (0, (10, 10, 2, 2)))

    def test_each_two_choices_come_to_the_row_of_both(self):
        chance = random.Random(42)
        for starts, wide in ((0, 3), (2, 3), (12, 4), (40, 9)):
            for turn in range(6):
                ends = any_ends(chance, 4, wide, starts)
                for some, others in itertools.product(choices(4), repeat=2):
                    self.two_choices(ends, some, others)

    def two_choices(self, ends, some, others):
        one = row_of(ends, some)
        other = row_of(ends, others)
        height, box, first, second = ask(self, joined, one, other)
        both = tuple(sorted(set(some + others)))
        self.assertEqual((height, box), row_of(ends, both), (ends, some, others))
        self.assertEqual((first, second), (height - one[0], height - other[0]))
        self.assertEqual(joined(other, one), (height, box, second, first))
        between = min(max(abs(u - a), abs(v - b))
                      for u, v in spots_of(one[1]) for a, b in spots_of(other[1]))
        longer = one[0] > other[0] + between or other[0] > one[0] + between
        self.assertGreaterEqual(first + second, between)
        self.assertEqual(first + second > between, longer, (ends, some, others))

    def test_at_the_bounds(self):
        ends = ((-MILLION, -MILLION, 0, 0), (MILLION, MILLION, MILLION, 0), (MILLION, -MILLION, 7, 0))
        for some, others in itertools.product(choices(3), repeat=2):
            told = ask(self, joined, row_of(ends, some), row_of(ends, others))
            self.assertEqual(told[:2], row_of(ends, tuple(sorted(set(some + others)))))


class RowsOf(unittest.TestCase):

    def gone_through(self, ends, joining):
        want = tuple(row_of(ends, some) for some in beneath_each(len(ends), joining))
        tell(self, want, rows_of, ends, joining)

    def test_one_end(self):
        tell(self, ((10, (14, 14, -2, -2)),), rows_of, ((3, 4, 5, 6),), ())

    def test_two_ends(self):
        for joining in (((0, 1),), ((1, 0),)):
            tell(self, ((0, (0, 0, 0, 0)), (2, (4, 4, 0, 0)), (3, (3, 3, -1, 1))),
                 rows_of, ((0, 0, 0, 0), (1, 1, 1, 0)), joining)

    def test_every_joining_of_four(self):
        ends = ((0, 0, 0, 0), (3, 1, 2, 0), (-2, 4, 0, 0), (1, 1, 9, 0))
        for joining in all_joinings(4):
            self.gone_through(ends, joining)

    def test_up_to_24_ends(self):
        chance = random.Random(43)
        for many in range(1, 25):
            for wide, starts in ((5, 0), (5, 8), (MILLION, MILLION), (MILLION, 0), (0, 4)):
                self.gone_through(any_ends(chance, many, wide, starts), any_joining(chance, many))

    def test_chains_of_24_ends(self):
        chance = random.Random(44)
        for flipped in (False, True):
            self.gone_through(any_ends(chance, 24, 20, 20), chain_joining(24, flipped))

    def test_the_rows_hang_not_on_the_loads(self):
        chance = random.Random(45)
        ends = any_ends(chance, 9)
        joining = any_joining(chance, 9)
        other = tuple(exchanged(end, 3, end[3] + 1000) for end in ends)
        self.assertEqual(rows_of(ends, joining), rows_of(other, joining))


class LeastEvenTrees(unittest.TestCase):
    """A joint's row is where it stands in the even trees of least wire beneath it."""

    def gone_through(self, ends, joining):
        rows = ask(self, rows_of, ends, joining)
        stands = [least_stands(wires) for wires in even_wires(ends, joining)]
        self.assertEqual(len(rows), len(stands))
        for (height, box), stand in zip(rows, stands):
            self.assertEqual({(spot, height) for spot in spots_of(box)}, stand, (ends, joining))

    def test_two_ends(self):
        for x, y, start in itertools.product(range(3), range(3), (0, 2, 4)):
            self.gone_through(((0, 1, 1, 0), (x, y, start, 0)), ((0, 1),))

    def test_three_and_four_ends(self):
        chance = random.Random(46)
        for many, turns in ((3, 12), (4, 8)):
            for turn in range(turns):
                ends = any_ends(chance, many, 1, (0, 1, 3)[turn % 3])
                self.gone_through(ends, any_joining(chance, many))


if __name__ == "__main__":
    unittest.main()
