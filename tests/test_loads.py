"""Loads and what lengths bear: point 20."""

import random
import unittest

from evenwires.even import even_tree
from evenwires.loads import borne, loads_of
from tests.helpers import (
    all_joinings, any_ends, any_joining, beneath_each, chain_joining, exchanged, reordered, sides_exchanged, tell)

MILLION = 10 ** 6


def with_loads(loads):
    """Ends with these loads, here and there."""
    return tuple((3 * end, -end, end % 4, load) for end, load in enumerate(loads))


def loads_told(ends, joining):
    """The loads by what is told of them: of each knot those of all ends beneath it."""
    return tuple(sum(ends[end][3] for end in some) for some in beneath_each(len(ends), joining))


def any_lengths(chance, many, most):
    return tuple(chance.randint(0, most) for knot in range(2 * many - 2))


class LoadsOf(unittest.TestCase):

    def told(self, ends, joining):
        want = loads_told(ends, joining)
        tell(self, want, loads_of, ends, joining)
        self.assertEqual(want[-1], sum(end[3] for end in ends))

    def test_one_end(self):
        for load in (0, 1, 7, MILLION):
            tell(self, (load,), loads_of, ((3, 4, 5, load),), ())

    def test_two_ends(self):
        for joining in (((0, 1),), ((1, 0),)):
            tell(self, (5, 2, 7), loads_of, with_loads((5, 2)), joining)
            tell(self, (0, 0, 0), loads_of, with_loads((0, 0)), joining)
            tell(self, (0, 9, 9), loads_of, with_loads((0, 9)), joining)

    def test_four_ends(self):
        ends = with_loads((1, 20, 300, 4000))
        tell(self, (1, 20, 300, 4000, 21, 4300, 4321), loads_of, ends, ((0, 1), (2, 3), (4, 5)))
        tell(self, (1, 20, 300, 4000, 4020, 4320, 4321), loads_of, ends, ((3, 1), (2, 4), (5, 0)))

    def test_every_joining_of_four(self):
        for joining in all_joinings(4):
            self.told(with_loads((1, 20, 300, 4000)), joining)

    def test_many(self):
        chance = random.Random(131)
        for many in range(1, 25):
            for turn in range(5):
                self.told(any_ends(chance, many), any_joining(chance, many))

    def test_24_ends(self):
        chance = random.Random(132)
        for joining in (chain_joining(24), chain_joining(24, True), any_joining(chance, 24)):
            for loads in ((0,) * 24, (MILLION,) * 24, (0, MILLION) * 12, tuple(2 ** end % MILLION for end in range(24))):
                self.told(with_loads(loads), joining)
        ends = with_loads((MILLION,) * 24)
        want = (MILLION,) * 24 + tuple(MILLION * many for many in range(2, 25))
        tell(self, want, loads_of, ends, chain_joining(24))

    def test_places_and_starts_are_nothing_to_it(self):
        chance = random.Random(133)
        ends = any_ends(chance, 9)
        other = tuple((0, 0, 0, load) for x, y, start, load in ends)
        joining = any_joining(chance, 9)
        self.assertEqual(loads_of(ends, joining), loads_of(other, joining))


class Borne(unittest.TestCase):

    def told(self, ends, joining, lengths):
        loads = loads_told(ends, joining)
        want = sum(lengths[knot] * loads[knot] for knot in range(2 * len(ends) - 2))
        tell(self, want, borne, ends, joining, lengths)

    def test_one_end(self):
        for load in (0, 7, MILLION):
            tell(self, 0, borne, ((3, 4, 5, load),), (), ())

    def test_two_ends(self):
        for joining in (((0, 1),), ((1, 0),)):
            tell(self, 5 * 3 + 2 * 4, borne, with_loads((5, 2)), joining, (3, 4))
            tell(self, 0, borne, with_loads((5, 2)), joining, (0, 0))
            tell(self, 0, borne, with_loads((0, 0)), joining, (3, 4))
            tell(self, 4, borne, with_loads((9, 1)), joining, (0, 4))

    def test_each_length_by_itself(self):
        ends = with_loads((1, 20, 300, 4000))
        for joining in (((0, 1), (2, 3), (4, 5)), ((3, 1), (2, 4), (5, 0)), chain_joining(4)):
            loads = loads_told(ends, joining)
            for knot in range(6):
                for length in (1, 7, 10 ** 10):
                    tell(self, length * loads[knot], borne, ends, joining, exchanged((0,) * 6, knot, length))

    def test_many(self):
        chance = random.Random(134)
        for many in range(1, 25):
            for most in (0, 1, 9, 10 ** 10):
                self.told(any_ends(chance, many), any_joining(chance, many), any_lengths(chance, many, most))

    def test_24_ends_at_the_bounds(self):
        ends = with_loads((MILLION,) * 24)
        for joining in (chain_joining(24), chain_joining(24, True), any_joining(random.Random(135), 24)):
            self.told(ends, joining, (10 ** 10,) * 46)
            self.told(ends, joining, (0,) * 46)
        # 24 wires of ends, and of the joints those of 2 to 23 ends.
        tell(self, MILLION * 10 ** 10 * (24 + sum(range(2, 24))), borne, ends, chain_joining(24), (10 ** 10,) * 46)

    def test_lengths_of_trees(self):
        chance = random.Random(136)
        for many in (2, 5, 24):
            ends = any_ends(chance, many, MILLION, MILLION)
            joining = any_joining(chance, many)
            self.told(ends, joining, even_tree(ends, joining)[2])

    def test_sides_and_orders(self):
        chance = random.Random(137)
        for many in (3, 7, 24):
            ends = any_ends(chance, many)
            joining = any_joining(chance, many)
            lengths = any_lengths(chance, many, 99)
            other, numbers = reordered(chance, many, joining)
            other = sides_exchanged(other, [chance.random() < 0.5 for row in other])
            moved = {number: lengths[knot] for knot, number in enumerate(numbers[:-1])}
            self.assertEqual(
                borne(ends, joining, lengths), borne(ends, other, tuple(moved[knot] for knot in range(2 * many - 2))))


if __name__ == "__main__":
    unittest.main()
