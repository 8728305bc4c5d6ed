"""The best joining of few ends: point 23, and of point 3 the sentence on it."""

import random
import time
import unittest

from evenwires.best import best_joining
from evenwires.ends import is_joining
from evenwires.errors import TooMany, WireError
from evenwires.even import even_wire
from evenwires.found import halved_joining, nearest_joining
from evenwires.tables import table_shown
from tests.helpers import (
    all_joinings, any_ends, any_joining, ask, even_wires, greatest_numbers, height_of, least_wire, one_way_joinings,
    refuse, rising_choices, room_of)

MILLION = 10 ** 6
CORNERS = tuple((x, y, start, 1) for x in (-MILLION, MILLION) for y in (-MILLION, MILLION) for start in (0, MILLION))


def greatest_shown(ends):
    """The most that any table shows, and so the least wire, told apart from the program."""
    every = tuple(range(len(ends)))
    return greatest_numbers(ends).get(every, 0) + height_of(ends, every) - 2 * sum(end[2] for end in ends)


class Best(unittest.TestCase):

    def told(self, ends):
        """The least wire, as joining and table show it; both looked at with and without the program."""
        told = ask(self, best_joining, ends)
        self.assertEqual((type(told), len(told)), (tuple, 2))
        joining, table = told
        self.assertIs(is_joining(len(ends), joining), True, ends)
        wire = least_wire(ends, joining)
        self.assertEqual(even_wire(ends, joining), wire, ends)
        self.assertEqual(table_shown(ends, table), wire, ends)
        self.holds(ends, table, wire)
        return wire

    def holds(self, ends, table, wire):
        """The table holds and shows the wire, told apart from the program."""
        numbers = dict(table)
        self.assertEqual([some for some, number in table], rising_choices(len(ends)))
        for some, number in table:
            self.assertEqual((type(number), number >= 0), (int, True))
            self.assertLessEqual(number, room_of(ends, numbers, some))
        every = tuple(range(len(ends)))
        shown = numbers.get(every, 0) + height_of(ends, every) - 2 * sum(end[2] for end in ends)
        self.assertEqual(shown, wire, ends)

    def test_one_end(self):
        for start in (0, 5, MILLION):
            ends = ((3, 4, start, 6),)
            self.assertEqual(ask(self, best_joining, ends), ((), ()))
            self.assertEqual(self.told(ends), 0)

    def test_two_ends(self):
        self.assertEqual(self.told(((0, 0, 0, 0), (3, 4, 0, 0))), 14)
        self.assertEqual(self.told(((0, 0, 9, 0), (3, 4, 0, 0))), 18)
        self.assertEqual(self.told(((0, 0, 0, 0), (0, 0, 0, 0))), 0)
        self.assertIn(best_joining(((0, 0, 0, 0), (3, 4, 0, 0)))[0], (((0, 1),), ((1, 0),)))

    def test_three_ends(self):
        ends = ((0, 0, 0, 1), (4, 0, 2, 1), (1, 1, 0, 1))
        self.assertEqual(self.told(ends), 10)
        self.assertEqual(set(best_joining(ends)[0][0]), {0, 2})

    def test_neither_nearest_nor_halved(self):
        # Some ends of which both joinings that are found otherwise have more wire.
        chance = random.Random(181)
        better = 0
        for turn in range(60):
            ends = any_ends(chance, 7, 9, 4)
            wire = self.told(ends)
            others = [even_wire(ends, nearest_joining(ends)), even_wire(ends, halved_joining(ends))]
            self.assertLessEqual(wire, min(others))
            better += wire < min(others)
        self.assertGreater(better, 0)

    def test_against_all_joinings(self):
        chance = random.Random(182)
        for many, turns in ((2, 20), (3, 20), (4, 20), (5, 12)):
            joinings = one_way_joinings(many)
            for turn in range(turns):
                wide, starts = ((3, 0), (9, 0), (9, 9), (4, 60), (2, 1))[turn % 5]
                ends = any_ends(chance, many, wide, starts)
                self.assertEqual(self.told(ends), min(least_wire(ends, joining) for joining in joinings), ends)

    def test_against_all_joinings_with_their_sides(self):
        chance = random.Random(183)
        for turn in range(5):
            ends = any_ends(chance, 4, 6, 3)
            self.assertEqual(self.told(ends), min(even_wire(ends, joining) for joining in all_joinings(4)))

    def test_against_all_even_trees(self):
        chance = random.Random(184)
        for turn in range(6):
            ends = any_ends(chance, 3, 1, turn % 3)
            wires = [min(even_wires(ends, joining)[-1].values()) for joining in one_way_joinings(3)]
            self.assertEqual(self.told(ends), min(wires))

    def test_six_and_seven_ends(self):
        chance = random.Random(185)
        for many in (6, 7):
            for wide, starts in ((3, 0), (9, 9), (40, 5), (5, 500), (MILLION, MILLION)):
                ends = any_ends(chance, many, wide, starts)
                wire = self.told(ends)
                self.assertEqual(wire, greatest_shown(ends))
                for turn in range(80):
                    self.assertLessEqual(wire, least_wire(ends, any_joining(chance, many)))

    def test_ends_at_one_place(self):
        for many in range(2, 8):
            self.assertEqual(self.told(((7, -7, 0, 0),) * many), 0)
            self.assertEqual(self.told(((7, -7, 4, 0),) * many), 0)
            ends = tuple((7, -7, 3 * end, 0) for end in range(many))
            # The lowest first, each joint as high as its highest end: so all wires are of the lower ones.
            self.assertEqual(self.told(ends), greatest_shown(ends))

    def test_ends_on_one_line(self):
        self.assertEqual(self.told(tuple((x, 0, 0, 0) for x in (0, 1, 8, 9))), 4 * 1 + 2 * 8)
        for many in range(2, 8):
            for ends in (tuple((3 * end, 0, 0, 0) for end in range(many)), tuple((5, end * end, 0, 0) for end in range(many)),
                         tuple((2 ** end, -2 ** end, end, 0) for end in range(many))):
                self.assertEqual(self.told(ends), greatest_shown(ends))

    def test_at_the_bounds(self):
        for ends in (CORNERS[:7], CORNERS[1:], CORNERS[::2], CORNERS[1::2], ((-MILLION, MILLION, MILLION, 0),) * 7):
            self.assertEqual(self.told(ends), greatest_shown(ends))

    def test_great_starts(self):
        chance = random.Random(186)
        for turn in range(12):
            ends = any_ends(chance, chance.randint(2, 7), 4, MILLION)
            self.assertEqual(self.told(ends), greatest_shown(ends))

    def test_the_order_of_ends_is_nothing_to_the_wire(self):
        chance = random.Random(187)
        for turn in range(8):
            ends = any_ends(chance, 6, 9, 5)
            other = tuple(chance.sample(ends, 6))
            self.assertEqual(self.told(ends), self.told(other))

    def test_seven_ends_in_time(self):
        begun = time.monotonic()
        best_joining(any_ends(random.Random(188), 7, MILLION, MILLION))
        self.assertLess(time.monotonic() - begun, 5)

    def test_too_many(self):
        chance = random.Random(189)
        for many in (8, 9, 12, 24):
            for ends in (any_ends(chance, many), ((0, 0, 0, 0),) * many):
                refuse(self, TooMany, best_joining, ends)
                with self.assertRaises(WireError):
                    best_joining(ends)


if __name__ == "__main__":
    unittest.main()
