"""Tables: point 24, of point 3 what they show, and of point 2 what is of anything."""

import itertools
import random
import time
import unittest

from evenwires.tables import table_shown
from tests.helpers import (
    GREAT_THINGS, NO_NUMBERS, NO_TUPLES, any_ends, any_joining, ask, even_wires, exchanged, greatest_numbers,
    half_steps, height_of, least_wire, one_way_joinings, rising_choices, room_of, table_of, tell)

MILLION = 10 ** 6
GREAT = 10 ** 60 - 1
THREE = ((0, 0, 0, 1), (4, 0, 2, 1), (1, 1, 0, 1))
CORNERS = tuple((x, y, start, 1) for x in (-MILLION, MILLION) for y in (-MILLION, MILLION) for start in (0, MILLION))


def shown_by(ends, numbers):
    """What such a table shows, told apart from the program."""
    every = tuple(range(len(ends)))
    return numbers.get(every, 0) + height_of(ends, every) - 2 * sum(end[2] for end in ends)


def any_numbers(chance, ends):
    """Numbers of a table that holds: each is somewhere from 0 to the most that it may be."""
    numbers = {}
    for some in sorted(rising_choices(len(ends)), key=len):
        room = room_of(ends, numbers, some)
        numbers[some] = chance.choice((0, room, max(0, room - 1), chance.randint(0, room)))
    return numbers


def few_ends(seed, most=7):
    """Ends of two and more, of several kinds."""
    chance = random.Random(seed)
    for many in range(2, most + 1):
        for wide, starts in ((3, 0), (9, 9), (0, 4), (0, 0), (5, 500), (MILLION, MILLION)):
            yield any_ends(chance, many, wide, starts)


class TableShown(unittest.TestCase):

    def shows(self, ends, numbers):
        tell(self, shown_by(ends, numbers), table_shown, ends, table_of(numbers))

    def none(self, ends, numbers):
        tell(self, None, table_shown, ends, table_of(numbers))

    def test_one_end(self):
        for start in (0, 5, MILLION):
            tell(self, 0, table_shown, ((3, 4, start, 6),), ())

    def test_two_ends(self):
        ends = ((0, 0, 3, 0), (5, 1, 1, 0))
        # The height is 10: so much the number may be, and 10 + 10 - 8 is shown.
        tell(self, 12, table_shown, ends, (((0, 1), 10),))
        tell(self, 11, table_shown, ends, (((0, 1), 9),))
        tell(self, 2, table_shown, ends, (((0, 1), 0),))
        tell(self, None, table_shown, ends, (((0, 1), 11),))
        tell(self, None, table_shown, ends, (((0, 1), -1),))

    def test_three_ends(self):
        # The heights are 6, 6, 2, 6 as the rows stand; less twice all starts is 4.
        def table(one, every, other, third):
            return ((0, 1), one), ((0, 1, 2), every), ((0, 2), other), ((1, 2), third)
        tell(self, 6 + 2 + 6 - 4, table_shown, THREE, table(6, 8, 2, 6))
        tell(self, None, table_shown, THREE, table(6, 9, 2, 6))
        tell(self, None, table_shown, THREE, table(6, 8, 1, 6))
        tell(self, 7 + 6 - 4, table_shown, THREE, table(6, 7, 1, 6))
        # Each parting counts: the ends 0 and 1 are too low now, then 1 and 2.
        tell(self, 8 + 6 - 4, table_shown, THREE, table(2, 8, 2, 6))
        tell(self, None, table_shown, THREE, table(1, 8, 2, 6))
        tell(self, None, table_shown, THREE, table(6, 8, 2, 1))
        tell(self, 6 + 6 - 4, table_shown, THREE, table(0, 6, 0, 0))
        tell(self, None, table_shown, THREE, table(0, 7, 0, 0))

    def test_numbers_of_nought(self):
        for ends in few_ends(161):
            self.shows(ends, dict.fromkeys(rising_choices(len(ends)), 0))

    def test_less_than_nought(self):
        ends = ((0, 0, 3, 0), (0, 0, 3, 0), (0, 0, 2, 0))
        numbers = dict.fromkeys(rising_choices(3), 0)
        tell(self, 6 - 16, table_shown, ends, table_of(numbers))
        numbers[(0, 1, 2)] = 5
        tell(self, -5, table_shown, ends, table_of(numbers))
        ends = ((0, 0, MILLION, 0),) * 7
        numbers = dict.fromkeys(rising_choices(7), 0)
        tell(self, 2 * MILLION - 14 * MILLION, table_shown, ends, table_of(numbers))

    def test_each_number_as_great_as_it_may_be_and_one_more(self):
        for ends in few_ends(162):
            numbers = greatest_numbers(ends)
            self.shows(ends, numbers)
            for some in numbers:
                self.none(ends, {**numbers, some: numbers[some] + 1})
                self.none(ends, {**numbers, some: numbers[some] + 10 ** 15})

    def test_each_number_by_itself(self):
        # All others 0, so that just the height of its own ends is let; then nothing more hangs on it.
        for ends in few_ends(163):
            numbers = dict.fromkeys(rising_choices(len(ends)), 0)
            for some in numbers:
                height = height_of(ends, some)
                self.shows(ends, {**numbers, some: height})
                self.none(ends, {**numbers, some: height + 1})

    def test_tables_of_any_hand(self):
        chance = random.Random(164)
        for ends in few_ends(165):
            for turn in range(6):
                numbers = any_numbers(chance, ends)
                self.shows(ends, numbers)
                some = chance.choice(list(numbers))
                self.none(ends, {**numbers, some: room_of(ends, numbers, some) + 1})

    def test_each_parting_counts(self):
        # For all ends and each way to part them a table in which just this way lets no more.
        chance = random.Random(166)
        for many in (2, 3, 4, 5):
            ends = any_ends(chance, many, 20, 3)
            every = tuple(range(many))
            for size in range(1, many):
                for part in itertools.combinations(every, size):
                    rest = tuple(end for end in every if end not in part)
                    numbers = greatest_numbers(ends)
                    for some in list(numbers):
                        if set(some) <= set(part) or set(some) <= set(rest):
                            numbers[some] = 0
                        else:
                            numbers[some] = room_of(ends, numbers, some)
                    numbers[every] = height_of(ends, every)
                    if all(numbers[some] <= room_of(ends, numbers, some) for some in numbers):
                        self.shows(ends, numbers)
                    self.none(ends, {**numbers, every: height_of(ends, every) + 1})

    def test_no_joining_has_less(self):
        chance = random.Random(167)
        for ends in few_ends(168, 5):
            least = min(least_wire(ends, joining) for joining in one_way_joinings(len(ends)))
            tell(self, least, table_shown, ends, table_of(greatest_numbers(ends)))
            for turn in range(5):
                shown = table_shown(ends, table_of(any_numbers(chance, ends)))
                self.assertLessEqual(shown, least, ends)

    def test_no_joining_of_more_ends_has_less(self):
        chance = random.Random(169)
        for many in (6, 7):
            for turn in range(6):
                ends = any_ends(chance, many, 9, (0, 9)[turn % 2])
                shown = table_shown(ends, table_of(greatest_numbers(ends)))
                self.assertIsNotNone(shown)
                for joining in range(60):
                    self.assertLessEqual(shown, least_wire(ends, any_joining(chance, many)))

    def test_against_all_even_trees(self):
        chance = random.Random(170)
        for turn in range(6):
            ends = any_ends(chance, 3, 1, turn % 3)
            least = min(min(even_wires(ends, joining)[-1].values()) for joining in one_way_joinings(3))
            tell(self, least, table_shown, ends, table_of(greatest_numbers(ends)))

    def test_at_the_bounds(self):
        chance = random.Random(171)
        for many in (2, 4, 7):
            for ends in (CORNERS[:many], CORNERS[-many:], any_ends(chance, many, MILLION, 0)):
                self.shows(ends, greatest_numbers(ends))
                self.shows(ends, any_numbers(chance, ends))

    def test_seven_ends_in_time(self):
        ends = any_ends(random.Random(172), 7, MILLION, MILLION)
        table = table_of(greatest_numbers(ends))
        begun = time.monotonic()
        for turn in range(5):
            self.assertIsNotNone(table_shown(ends, table))
        self.assertLess(time.monotonic() - begun, 10)

    def test_loads_are_nothing_to_it(self):
        ends = any_ends(random.Random(173), 5)
        other = tuple((x, y, start, MILLION) for x, y, start, load in ends)
        table = table_of(greatest_numbers(ends))
        self.assertEqual(table_shown(ends, table), table_shown(other, table))


class NoTables(unittest.TestCase):

    def setUp(self):
        chance = random.Random(174)
        self.cases = [(THREE, table_of(greatest_numbers(THREE))), (THREE[:2], (((0, 1), 6),))]
        for many in (4, 5, 7):
            ends = any_ends(chance, many)
            self.cases.append((ends, table_of(greatest_numbers(ends))))
        # Where a number of 0 is let in each place, only the form can be wrong.
        self.cases.append((THREE, tuple((some, 0) for some in rising_choices(3))))
        for ends, table in self.cases:
            self.assertIsNotNone(table_shown(ends, table))

    def none(self, ends, thing):
        self.assertIsNone(ask(self, table_shown, ends, thing), (ends, repr(thing)[:200]))

    def places(self, table):
        """Where in a table parts are exchanged: all places, of long ones some."""
        return range(len(table)) if len(table) < 30 else (0, 1, 2, 57, len(table) - 1)

    def test_of_one_end(self):
        ends = ((3, 4, 5, 6),)
        for thing in NO_TUPLES + GREAT_THINGS + (
                ((),), (((0,), 0),), (((), 0),), (None,), (0,), (0, 0), [()], [[]], (False,), (((0, 1), 0),)):
            self.none(ends, thing)

    def test_eight_ends_and_more(self):
        chance = random.Random(175)
        for many in (8, 9, 12, 24):
            for ends in (any_ends(chance, many), ((0, 0, 0, 0),) * many):
                for thing in NO_TUPLES + NO_NUMBERS + GREAT_THINGS:
                    self.none(ends, thing)
                for size in range(2, 9):
                    self.none(ends, tuple((some, 0) for some in rising_choices(size)))
        for many in (8, 9):
            ends = any_ends(chance, many)
            self.none(ends, tuple((some, 0) for some in rising_choices(many)))
        self.none(ends[:8], table_of(greatest_numbers(ends[:8])))

    def test_the_whole(self):
        for ends, table in self.cases:
            for thing in NO_TUPLES + NO_NUMBERS + GREAT_THINGS:
                self.none(ends, thing)
            for thing in (list(table), [list(row) for row in table], dict(table), {table: table}, repr(table),
                          (table,), (table, table), tuple(some for some, number in table),
                          tuple(number for some, number in table), tuple(part for row in table for part in row)):
                self.none(ends, thing)

    def test_rows_missing(self):
        for ends, table in self.cases:
            self.none(ends, ())
            for k in self.places(table):
                self.none(ends, table[:k] + table[k + 1:])
                self.none(ends, table[:k])

    def test_rows_twice(self):
        for ends, table in self.cases:
            for k in self.places(table):
                self.none(ends, table[:k] + table[k:k + 1] + table[k:])
                self.none(ends, table + table[k:k + 1])
                self.none(ends, exchanged(table, k, table[k - 1]) if len(table) > 1 else table * 2)
            self.none(ends, table + table)

    def test_rows_in_another_order(self):
        chance = random.Random(176)
        for ends, table in self.cases:
            if len(table) > 1:
                self.none(ends, table[::-1])
                self.none(ends, table[1:] + table[:1])
                # By how many ends there are, as one may well put them.
                by_size = tuple(sorted(table, key=lambda row: (len(row[0]), row[0])))
                self.assertNotEqual(by_size, table)
                self.none(ends, by_size)
                for k in range(len(table) - 1):
                    self.none(ends, table[:k] + (table[k + 1], table[k]) + table[k + 2:])
                for turn in range(5):
                    other = tuple(chance.sample(table, len(table)))
                    if other != table:
                        self.none(ends, other)

    def test_more_rows(self):
        for ends, table in self.cases:
            many = len(ends)
            for row in (((), 0), ((0,), 0), ((many - 1,), 0), ((many - 1, many), 0), None, (), (tuple(range(many)), 0)):
                self.none(ends, table + (row,))
                self.none(ends, (row,) + table)
            # As of one end more, and of one fewer.
            for size in (many - 1, many + 1):
                self.none(ends, tuple((some, 0) for some in rising_choices(size)))
            # With the ends alone, too.
            alone = tuple(sorted(table + tuple(((end,), 0) for end in range(many))))
            self.none(ends, alone)

    def test_some_not_rising(self):
        for ends, table in self.cases:
            for k in self.places(table):
                some, number = table[k]
                for other in list(itertools.permutations(some))[1:6] + [some[::-1]]:
                    self.none(ends, exchanged(table, k, (other, number)))
                    self.none(ends, exchanged(table, k, (other, 0)))

    def test_an_end_twice(self):
        for ends, table in self.cases:
            for k in self.places(table):
                some, number = table[k]
                for at in range(len(some)):
                    self.none(ends, exchanged(table, k, (some[:at] + some[at:at + 1] + some[at:], number)))
                    self.none(ends, exchanged(table, k, (exchanged(some, at, some[at - 1]), number)))

    def test_an_end_that_is_not_there(self):
        for ends, table in self.cases:
            many = len(ends)
            for k in self.places(table):
                some, number = table[k]
                for other in (-1, -many, many, many + 1, GREAT, -GREAT):
                    for at in range(len(some)):
                        self.none(ends, exchanged(table, k, (exchanged(some, at, other), number)))
                    self.none(ends, exchanged(table, k, (tuple(sorted(some + (other,))), number)))

    def test_some_other_ends(self):
        for ends, table in self.cases:
            for k in self.places(table):
                some, number = table[k]
                for other in ((), some[:1], some[1:], some[:-1]) + tuple(row[0] for row in table if row[0] != some):
                    self.none(ends, exchanged(table, k, (other, number)))

    def test_numbers_below_nought(self):
        for ends, table in self.cases:
            for k in self.places(table):
                for number in (-1, -2, -10 ** 15, -GREAT):
                    self.none(ends, exchanged(table, k, (table[k][0], number)))

    def test_great_numbers(self):
        for ends, table in self.cases:
            for k in self.places(table):
                self.none(ends, exchanged(table, k, (table[k][0], GREAT)))

    def test_numbers_of_other_kinds(self):
        for ends, table in self.cases:
            for k in self.places(table):
                some, number = table[k]
                for thing in NO_NUMBERS + (str(number), (number,), [number], {number: number}):
                    self.none(ends, exchanged(table, k, (some, thing)))

    def test_some_of_other_kinds(self):
        for ends, table in self.cases:
            for k in self.places(table):
                some, number = table[k]
                for thing in NO_TUPLES + (list(some), dict(enumerate(some)), dict.fromkeys(some), (some,), repr(some),
                                          "".join(str(end) for end in some), (list(some),), tuple((e,) for e in some)):
                    self.none(ends, exchanged(table, k, (thing, number)))

    def test_ends_of_other_kinds(self):
        for ends, table in self.cases:
            for k in self.places(table):
                some, number = table[k]
                for at in (0, len(some) - 1):
                    for thing in NO_NUMBERS + (str(some[at]), (some[at],), [some[at]]):
                        self.none(ends, exchanged(table, k, (exchanged(some, at, thing), number)))

    def test_rows_of_other_kinds(self):
        for ends, table in self.cases:
            for k in self.places(table):
                some, number = table[k]
                for thing in NO_TUPLES + (list(table[k]), (some,), (number,), (some, number, number), (number, some),
                                          some + (number,), (some, number, ()), (table[k],), {some: number},
                                          (some, (number,)), ((some, number),) * 2, repr(table[k])):
                    self.none(ends, exchanged(table, k, thing))

    def test_truths_in_the_place_of_their_numbers(self):
        ends = ((0, 0, 0, 0), (3, 0, 0, 0))
        for number in (0, 1):
            self.assertIsNotNone(table_shown(ends, (((0, 1), number),)))
            for row in (((False, 1), number), ((0, True), number), ((False, True), number), ((0, 1), bool(number))):
                self.none(ends, (row,))

    def test_the_cases_are_right_by_half_steps(self):
        for ends, table in self.cases:
            for some, number in table:
                if len(some) == 2:
                    most = max(half_steps(ends, one, other) for one in some for other in some)
                    self.assertLessEqual(number, most)


if __name__ == "__main__":
    unittest.main()
