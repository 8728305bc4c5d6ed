"""What ends are and what a joining is, of anything: points 2, 4 and 5."""

import itertools
import random
import unittest

from evenwires.ends import is_ends, is_joining
from tests.helpers import (
    GREAT_THINGS, NO_NUMBERS, NO_TUPLES, all_joinings, any_joining, ask,
    chain_joining, exchanged)

MILLION = 10 ** 6
GREAT = 10 ** 60 - 1


class Ends(unittest.TestCase):

    def right(self, thing):
        self.assertIs(ask(self, is_ends, thing), True, repr(thing)[:200])

    def wrong(self, thing):
        self.assertIs(ask(self, is_ends, thing), False, repr(thing)[:200])

    def test_one_end(self):
        self.right(((0, 0, 0, 0),))
        self.right(((3, -4, 5, 6),))
        self.right(((-3, 4, 0, 1),))

    def test_many_ends(self):
        self.right(((0, 0, 0, 0), (1, 0, 0, 0)))
        self.right(tuple((k, -k, k, 2 * k) for k in range(24)))

    def test_more_than_the_bound_of_24(self):
        self.right(tuple((k, -k, k, 2 * k) for k in range(25)))
        self.right(tuple((k, -k, k, 2 * k) for k in range(1500)))

    def test_several_at_one_place(self):
        self.right(((1, 2, 3, 4),) * 2)
        self.right(((1, 2, 3, 4),) * 30)
        self.right(((1, 2, 0, 4), (1, 2, 7, 0), (1, 2, 0, 4)))

    def test_numbers_at_and_beyond_the_bounds(self):
        for great in (MILLION, MILLION + 1, 10 ** 15, GREAT):
            self.right(((great, great, great, great),))
            self.right(((-great, -great, 0, 0),))
            self.right(((0, 0, great, 0), (0, 0, 0, great)))

    def test_start_or_load_below_nought(self):
        for low in (-1, -2, -MILLION, -GREAT):
            self.wrong(((0, 0, low, 0),))
            self.wrong(((0, 0, 0, low),))
            self.wrong(((0, 0, low, low),))
            self.wrong(((0, 0, 0, 0), (5, 5, 5, low)))
            self.wrong(((0, 0, low, 0), (5, 5, 5, 5)))

    def test_the_whole_is_none(self):
        self.wrong(())
        for thing in NO_TUPLES + GREAT_THINGS:
            self.wrong(thing)

    def test_the_whole_in_lists_and_dicts(self):
        end = (0, 0, 0, 0)
        for thing in ([end], [list(end)], {0: end}, {end: end}, {end: 0}, [end, end], end):
            self.wrong(thing)

    def test_a_part_that_is_no_end(self):
        ends = ((0, 0, 0, 0), (1, 2, 3, 4), (5, 6, 7, 8))
        for at in range(3):
            for part in NO_TUPLES + GREAT_THINGS + ((), ((0, 0, 0, 0),)):
                self.wrong(exchanged(ends, at, part))
                self.wrong((part,))

    def test_ends_of_other_sizes(self):
        for size in (0, 1, 2, 3, 5, 6, 8):
            odd = (0,) * size
            self.wrong((odd,))
            self.wrong(((1, 2, 3, 4), odd))
            self.wrong((odd, (1, 2, 3, 4)))

    def test_no_number_in_any_place(self):
        ends = ((0, 0, 0, 0), (1, 2, 3, 4))
        for at in range(2):
            for place in range(4):
                for part in NO_NUMBERS:
                    self.wrong(exchanged(ends, at, exchanged(ends[at], place, part)))

    def test_the_last_of_many_is_wrong(self):
        ends = tuple((k, -k, k, 2 * k) for k in range(1000))
        self.right(ends)
        for last in ((0, 0, 0), (0, 0, 0, 0, 0), (0, 0, -1, 0), (0, 0, 0, -1),
                     (True, 0, 0, 0), (0, 0, 0, False), [0, 0, 0, 0], None, "0000"):
            self.wrong(ends + (last,))
            self.wrong(ends[:23] + (last,))

    def test_truths_are_parted_from_numbers_whichever_is_asked_first(self):
        for turn in range(2):
            self.right(((1, 0, 1, 0),))
            self.wrong(((True, False, True, False),))
            self.wrong(((1, 0, 1, False),))


class Joining(unittest.TestCase):

    def right(self, many, thing):
        self.assertIs(ask(self, is_joining, many, thing), True, repr((many, thing))[:200])

    def wrong(self, many, thing):
        self.assertIs(ask(self, is_joining, many, thing), False, repr((many, thing))[:200])

    def test_one_end(self):
        self.right(1, ())
        self.wrong(1, ((0, 0),))
        self.wrong(1, ((0, 1),))
        self.wrong(1, ((),))

    def test_two_ends(self):
        self.right(2, ((0, 1),))
        self.right(2, ((1, 0),))
        for thing in ((), ((0, 0),), ((1, 1),), ((0, 2),), ((2, 0),), ((1, 2),), ((0, -1),),
                      ((-1, 0),), ((-2, -1),), ((0, 1), (0, 1)), ((0, 1), (2, 0)), ((0, 3),)):
            self.wrong(2, thing)

    def test_all_that_small_numbers_make(self):
        for many in (1, 2, 3):
            right = set(all_joinings(many))
            for rows in (0, 1, 2):
                for flat in itertools.product(range(-2, 7), repeat=2 * rows):
                    thing = tuple(zip(flat[::2], flat[1::2]))
                    self.assertIs(is_joining(many, thing), thing in right, (many, thing))

    def test_every_joining_of_four_and_five(self):
        for many, count in ((4, 144), (5, 2880)):
            joinings = all_joinings(many)
            self.assertEqual(len(set(joinings)), count)
            for joining in joinings:
                self.assertIs(is_joining(many, joining), True, joining)

    def test_all_of_four_that_numbers_up_to_six_make(self):
        right = set(all_joinings(4))
        for flat in itertools.product(range(7), repeat=6):
            thing = (flat[:2], flat[2:4], flat[4:])
            self.assertIs(is_joining(4, thing), thing in right, thing)

    def test_chains_and_other_orders(self):
        self.right(4, ((0, 1), (4, 2), (5, 3)))
        self.right(4, ((2, 3), (0, 1), (4, 5)))
        self.right(4, ((2, 3), (1, 0), (5, 4)))
        self.right(4, ((3, 1), (4, 0), (2, 5)))
        for many in (3, 24, 25, 60):
            self.right(many, chain_joining(many))
            self.right(many, chain_joining(many, flipped=True))

    def test_many_ends(self):
        chance = random.Random(5)
        for many in (8, 24, 25, 100, 2500):
            joining = any_joining(chance, many)
            self.right(many, joining)
            self.right(many, tuple((other, one) for one, other in joining))
            self.wrong(many + 1, joining)
            self.wrong(many - 1, joining)

    def test_a_row_too_few_and_too_many(self):
        joining = chain_joining(5)
        self.wrong(5, joining[:-1])
        self.wrong(5, joining[1:])
        self.wrong(5, ())
        self.wrong(5, joining + ((7, 8),))
        self.wrong(5, joining + ((8, 9),))
        self.wrong(5, joining + (joining[-1],))

    def test_a_knot_twice(self):
        self.wrong(3, ((0, 1), (0, 2)))
        self.wrong(3, ((0, 1), (2, 1)))
        self.wrong(3, ((0, 1), (0, 3)))
        self.wrong(3, ((0, 1), (3, 1)))
        self.wrong(3, ((0, 1), (0, 1)))
        self.wrong(3, ((0, 1), (1, 0)))
        self.wrong(4, ((0, 1), (4, 2), (4, 3)))
        self.wrong(4, ((0, 1), (4, 2), (3, 4)))
        self.wrong(4, ((0, 1), (2, 3), (4, 0)))

    def test_one_and_other_alike(self):
        self.wrong(3, ((0, 0), (1, 2)))
        self.wrong(3, ((0, 1), (2, 2)))
        self.wrong(3, ((0, 1), (3, 3)))
        self.wrong(4, ((0, 1), (4, 4), (2, 3)))

    def test_a_knot_in_its_own_or_an_earlier_row(self):
        self.wrong(3, ((0, 3), (1, 2)))
        self.wrong(3, ((3, 0), (1, 2)))
        self.wrong(3, ((0, 1), (2, 4)))
        self.wrong(3, ((0, 1), (4, 2)))
        self.wrong(4, ((0, 5), (1, 2), (3, 4)))
        self.wrong(4, ((5, 0), (1, 2), (3, 4)))
        self.wrong(4, ((0, 1), (2, 3), (4, 6)))
        self.wrong(3, ((0, 1), (2, 5)))
        self.wrong(3, ((0, 1), (2, GREAT)))

    def test_below_nought(self):
        for low in (-1, -2, -3, -4, -GREAT):
            self.wrong(2, ((0, low),))
            self.wrong(2, ((low, 1),))
            self.wrong(3, ((0, 1), (2, low)))
            self.wrong(3, ((low, 1), (2, 3)))

    def test_the_whole_is_none(self):
        for many in (1, 2, 3, 4, 5):
            for thing in NO_TUPLES + GREAT_THINGS:
                self.wrong(many, thing)
        self.wrong(2, (0, 1))
        self.wrong(3, (0, 1))
        self.wrong(2, [(0, 1)])
        self.wrong(2, {(0, 1): (0, 1)})
        self.wrong(2, {0: (0, 1)})
        self.wrong(3, [(0, 1), (2, 3)])
        self.wrong(1, [])
        self.wrong(1, {})
        self.wrong(1, "")

    def test_a_part_that_is_no_row(self):
        joining = ((0, 1), (2, 3), (4, 5))
        for at in range(3):
            row = joining[at]
            for part in NO_TUPLES + GREAT_THINGS + (
                    list(row), {row[0]: 1, row[1]: 2}, (), row[:1], row + row[:1], row + (6,),
                    (row,), (row, row), f"{row[0]}{row[1]}"):
                self.wrong(4, exchanged(joining, at, part))

    def test_no_number_in_any_place(self):
        joining = ((0, 1), (2, 3), (4, 5))
        for at in range(3):
            for place in range(2):
                for part in NO_NUMBERS:
                    self.wrong(4, exchanged(joining, at, exchanged(joining[at], place, part)))
        self.wrong(2, ((False, True),))
        self.wrong(2, ((0, True),))
        self.wrong(2, ((False, 1),))

    def test_the_last_row_is_wrong(self):
        for many in (24, 1000):
            joining = chain_joining(many)
            last = 2 * many - 3
            self.right(many, joining)
            for row in ((last, many - 2), (0, last), (many - 1, many - 1), (last, last),
                        (many - 1, last + 1), (last + 1, many - 1), (many - 1, -1), (-1, last),
                        (many - 1, last - 1), (last, many - 1, 0), (last,), [last, many - 1],
                        (last, True), (None, many - 1), (str(last), many - 1), None, "ab"):
                self.wrong(many, joining[:-1] + (row,))

    def test_truths_are_parted_from_numbers_whichever_is_asked_first(self):
        for turn in range(2):
            self.right(2, ((0, 1),))
            self.wrong(2, ((False, True),))


if __name__ == "__main__":
    unittest.main()
