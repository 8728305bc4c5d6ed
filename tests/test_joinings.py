"""Chains, what is beneath, where ends meet: point 5."""

import random
import unittest

from evenwires.joinings import beneath, chain, meeting
from tests.helpers import all_joinings, any_joining, chain_joining, tell


def ends_beneath(many, joining, knot):
    """The ends beneath a knot, gone down from it."""
    if knot < many:
        return [knot]
    one, other = joining[knot - many]
    return sorted(ends_beneath(many, joining, one) + ends_beneath(many, joining, other))


def knots_above(many, joining, knot):
    """All knots, from below up, of which the knot is one or is beneath."""
    def below(joint):
        if joint < many:
            return [joint]
        one, other = joining[joint - many]
        return [joint] + below(one) + below(other)
    return [joint for joint in range(2 * many - 1) if knot in below(joint)]


class Joinings(unittest.TestCase):

    def gone_through(self, many, joining):
        knots = range(2 * many - 1)
        for knot in knots:
            tell(self, tuple(knots_above(many, joining, knot)), chain, many, joining, knot)
            tell(self, tuple(ends_beneath(many, joining, knot)), beneath, many, joining, knot)
        for one in range(many):
            for other in range(many):
                # The knot with the fewest ends beneath of all that have both.
                both = [knot for knot in knots
                        if {one, other} <= set(ends_beneath(many, joining, knot))]
                least = min(both, key=lambda knot: len(ends_beneath(many, joining, knot)))
                tell(self, least, meeting, many, joining, one, other)

    def test_one_end(self):
        tell(self, (0,), chain, 1, (), 0)
        tell(self, (0,), beneath, 1, (), 0)
        tell(self, 0, meeting, 1, (), 0, 0)

    def test_two_ends(self):
        for joining in (((0, 1),), ((1, 0),)):
            tell(self, (0, 2), chain, 2, joining, 0)
            tell(self, (1, 2), chain, 2, joining, 1)
            tell(self, (2,), chain, 2, joining, 2)
            tell(self, (0,), beneath, 2, joining, 0)
            tell(self, (1,), beneath, 2, joining, 1)
            tell(self, (0, 1), beneath, 2, joining, 2)
            tell(self, 0, meeting, 2, joining, 0, 0)
            tell(self, 1, meeting, 2, joining, 1, 1)
            tell(self, 2, meeting, 2, joining, 0, 1)
            tell(self, 2, meeting, 2, joining, 1, 0)

    def test_four_ends(self):
        joining = ((3, 1), (4, 0), (2, 5))
        tell(self, (3, 4, 5, 6), chain, 4, joining, 3)
        tell(self, (0, 5, 6), chain, 4, joining, 0)
        tell(self, (2, 6), chain, 4, joining, 2)
        tell(self, (4, 5, 6), chain, 4, joining, 4)
        tell(self, (1, 3), beneath, 4, joining, 4)
        tell(self, (0, 1, 3), beneath, 4, joining, 5)
        tell(self, (0, 1, 2, 3), beneath, 4, joining, 6)
        tell(self, 4, meeting, 4, joining, 1, 3)
        tell(self, 5, meeting, 4, joining, 3, 0)
        tell(self, 6, meeting, 4, joining, 2, 3)

    def test_a_chain_of_24_ends(self):
        for flipped in (False, True):
            joining = chain_joining(24, flipped)
            tell(self, (0,) + tuple(range(24, 47)), chain, 24, joining, 0)
            tell(self, (1,) + tuple(range(24, 47)), chain, 24, joining, 1)
            tell(self, (2,) + tuple(range(25, 47)), chain, 24, joining, 2)
            tell(self, (23, 46), chain, 24, joining, 23)
            tell(self, (46,), chain, 24, joining, 46)
            for joint in range(24, 47):
                tell(self, tuple(range(joint, 47)), chain, 24, joining, joint)
                tell(self, tuple(range(joint - 22)), beneath, 24, joining, joint)
            for one in range(24):
                tell(self, (one,), beneath, 24, joining, one)
                tell(self, one, meeting, 24, joining, one, one)
                for other in range(one):
                    tell(self, 23 + one, meeting, 24, joining, one, other)
                    tell(self, 23 + one, meeting, 24, joining, other, one)

    def test_every_joining_of_up_to_four(self):
        for many in (1, 2, 3, 4):
            for joining in all_joinings(many):
                self.gone_through(many, joining)

    def test_many_joinings(self):
        chance = random.Random(11)
        for many in (5, 6, 7, 9, 12, 17, 24):
            self.gone_through(many, any_joining(chance, many))

    def test_the_root(self):
        chance = random.Random(12)
        for many in (1, 2, 3, 10, 24):
            joining = any_joining(chance, many)
            tell(self, (2 * many - 2,), chain, many, joining, 2 * many - 2)
            tell(self, tuple(range(many)), beneath, many, joining, 2 * many - 2)


if __name__ == "__main__":
    unittest.main()
