"""Spots and boxes: points 7 and 8."""

import itertools
import random
import unittest

from evenwires.boxes import apart, corner, far, grown, has, met, nearest, spot_of
from tests.helpers import ask, spots_of, tell

GREAT = 10 ** 12


def small_boxes():
    """All boxes in a small field."""
    stretches = [(low, high) for low in range(-1, 3) for high in range(low, 3)]
    return [u + v for u in stretches for v in stretches]


def any_box(chance, wide):
    """Some box about nought."""
    u = sorted(chance.randint(-wide, wide) for side in range(2))
    v = sorted(chance.randint(-wide, wide) for side in range(2))
    return tuple(u + v)


def grains_apart(spot, other):
    """How far a spot is from another one, by moves of one grain in u, v or both."""
    moves = 0
    (u, v), (to_u, to_v) = spot, other
    while (u, v) != (to_u, to_v):
        u += (to_u > u) - (to_u < u)
        v += (to_v > v) - (to_v < v)
        moves += 1
    return moves


class Spots(unittest.TestCase):

    def test_spots_of_places(self):
        tell(self, (0, 0), spot_of, 1, 0, 0)
        tell(self, (1, 1), spot_of, 1, 1, 0)
        tell(self, (1, -1), spot_of, 1, 0, 1)
        tell(self, (7, -1), spot_of, 1, 3, 4)
        tell(self, (-1, -7), spot_of, 1, -4, 3)
        tell(self, (14, -2), spot_of, 2, 3, 4)
        tell(self, (21, -3), spot_of, 3, 3, 4)
        tell(self, (-10, 30), spot_of, 10, 1, -2)
        tell(self, (0, 2 * 10 ** 9), spot_of, 1000, 10 ** 6, -10 ** 6)
        tell(self, (-2 * 10 ** 9, 0), spot_of, 1000, -10 ** 6, -10 ** 6)

    def test_how_far(self):
        for spot, other, want in (
                ((0, 0), (0, 0), 0), ((3, 5), (3, 5), 0), ((0, 0), (3, 0), 3), ((0, 0), (0, 3), 3),
                ((0, 0), (3, 5), 5), ((0, 0), (5, 3), 5), ((0, 0), (-3, -5), 5), ((0, 0), (-5, 3), 5),
                ((2, -2), (-2, 2), 4), ((-7, 1), (-9, 1), 2),
                ((-GREAT, 0), (GREAT, 0), 2 * GREAT), ((0, GREAT), (1, -GREAT), 2 * GREAT)):
            tell(self, want, far, spot, other)
            tell(self, want, far, other, spot)

    def test_how_far_by_moves(self):
        for u, v in itertools.product(range(-4, 5), repeat=2):
            self.assertEqual(far((0, 0), (u, v)), grains_apart((0, 0), (u, v)))
            self.assertEqual(far((3 + u, v - 5), (3, -5)), grains_apart((0, 0), (u, v)))

    def test_places_are_as_far_as_their_spots(self):
        chance = random.Random(21)
        for turn in range(300):
            grain = chance.randint(1, 1000)
            x, y, a, b = [chance.randint(-10 ** 6, 10 ** 6) for number in range(4)]
            self.assertEqual(
                far(spot_of(grain, x, y), spot_of(grain, a, b)), grain * (abs(x - a) + abs(y - b)))


class Boxes(unittest.TestCase):

    def test_grown(self):
        tell(self, (0, 0, 0, 0), grown, (0, 0, 0, 0), 0)
        tell(self, (-1, 1, -1, 1), grown, (0, 0, 0, 0), 1)
        tell(self, (1, 5, -9, 2), grown, (3, 3, -7, 0), 2)
        tell(self, (3, 8, -7, 0), grown, (3, 8, -7, 0), 0)
        tell(self, (-4, 15, -14, 7), grown, (3, 8, -7, 0), 7)
        long = 10 ** 10
        tell(self, (-GREAT - long, GREAT + long, -long, long), grown, (-GREAT, GREAT, 0, 0), long)

    def test_grown_is_all_that_is_near(self):
        field = list(itertools.product(range(-6, 8), repeat=2))
        for box in ((0, 0, 0, 0), (0, 2, 1, 1), (1, 1, -1, 2), (-1, 2, 0, 1)):
            for by in (0, 1, 2, 3):
                near = {spot for spot in field
                        if min(grains_apart(spot, other) for other in spots_of(box)) <= by}
                self.assertEqual(spots_of(ask(self, grown, box, by)), near)

    def test_met(self):
        for box, other, want in (
                ((0, 4, 0, 4), (2, 6, 3, 7), (2, 4, 3, 4)),
                ((0, 4, 0, 4), (4, 6, 4, 7), (4, 4, 4, 4)),
                ((0, 4, 0, 4), (-3, 0, 4, 7), (0, 0, 4, 4)),
                ((0, 4, 0, 4), (4, 6, 1, 2), (4, 4, 1, 2)),
                ((0, 4, 0, 4), (1, 2, -5, 0), (1, 2, 0, 0)),
                ((0, 4, 0, 4), (5, 6, 0, 4), None),
                ((0, 4, 0, 4), (0, 4, -3, -1), None),
                ((0, 4, 0, 4), (5, 6, 5, 6), None),
                ((0, 4, 0, 4), (4, 6, 5, 6), None),
                ((0, 4, 0, 4), (5, 6, 4, 6), None),
                ((0, 4, 0, 4), (1, 2, 1, 3), (1, 2, 1, 3)),
                ((0, 4, 0, 4), (0, 4, 0, 4), (0, 4, 0, 4)),
                ((0, 4, 0, 4), (2, 2, 3, 3), (2, 2, 3, 3)),
                ((0, 4, 2, 2), (3, 3, 0, 4), (3, 3, 2, 2)),
                ((1, 1, 1, 1), (1, 1, 1, 1), (1, 1, 1, 1)),
                ((1, 1, 1, 1), (1, 1, 2, 2), None),
                ((-GREAT, 0, -GREAT, 0), (0, GREAT, 0, GREAT), (0, 0, 0, 0)),
                ((-GREAT, -1, -GREAT, 0), (0, GREAT, 0, GREAT), None)):
            tell(self, want, met, box, other)
            tell(self, want, met, other, box)

    def test_apart(self):
        for box, other, want in (
                ((0, 0, 0, 0), (0, 0, 0, 0), 0),
                ((0, 4, 0, 4), (2, 6, 3, 7), 0),
                ((0, 4, 0, 4), (1, 2, 1, 2), 0),
                ((0, 4, 0, 4), (4, 6, 4, 7), 0),
                ((0, 4, 0, 4), (5, 6, 0, 4), 1),
                ((0, 4, 0, 4), (0, 4, 5, 6), 1),
                ((0, 4, 0, 4), (5, 6, 5, 6), 1),
                ((0, 4, 0, 4), (7, 9, 5, 6), 3),
                ((0, 4, 0, 4), (5, 9, 7, 8), 3),
                ((0, 4, 0, 4), (-9, -2, 1, 1), 2),
                ((0, 4, 0, 4), (-9, -2, -9, -8), 8),
                ((0, 0, 0, 9), (3, 3, 2, 2), 3),
                ((-GREAT, -GREAT, 0, 0), (GREAT, GREAT, 5, 5), 2 * GREAT)):
            tell(self, want, apart, box, other)
            tell(self, want, apart, other, box)

    def test_each_two_small_boxes(self):
        for box, other in itertools.product(small_boxes(), repeat=2):
            both = spots_of(box) & spots_of(other)
            told = met(box, other)
            if both:
                self.assertEqual(spots_of(told), both, (box, other))
            else:
                self.assertIsNone(told, (box, other))

    def test_how_far_small_boxes_are_apart(self):
        chance = random.Random(22)
        for turn in range(400):
            box = any_box(chance, 5)
            other = any_box(chance, 5)
            near = min(grains_apart(spot, beyond)
                       for spot in spots_of(box) for beyond in spots_of(other))
            self.assertEqual(ask(self, apart, box, other), near, (box, other))
            self.assertEqual(apart(other, box), near, (box, other))

    def test_nearest(self):
        box = (0, 4, 10, 12)
        for spot, want in (
                ((2, 11), (2, 11)), ((0, 10), (0, 10)), ((4, 12), (4, 12)),
                ((-3, 11), (0, 11)), ((9, 11), (4, 11)), ((2, 9), (2, 10)), ((2, 15), (2, 12)),
                ((-3, 9), (0, 10)), ((-3, 15), (0, 12)), ((9, 9), (4, 10)), ((9, 15), (4, 12)),
                ((GREAT, -GREAT), (4, 10)), ((-GREAT, GREAT), (0, 12))):
            tell(self, want, nearest, box, spot)
        tell(self, (3, -7), nearest, (3, 3, -7, -7), (100, 100))
        tell(self, (3, 5), nearest, (3, 3, -7, 9), (100, 5))

    def test_nearest_in_each_of_u_and_v(self):
        field = list(itertools.product(range(-3, 5), repeat=2))
        for box in small_boxes():
            for u, v in field:
                want = (min(range(box[0], box[1] + 1), key=lambda near: abs(near - u)),
                        min(range(box[2], box[3] + 1), key=lambda near: abs(near - v)))
                self.assertEqual(nearest(box, (u, v)), want, (box, u, v))

    def test_corner(self):
        tell(self, (0, 10), corner, (0, 4, 10, 12))
        tell(self, (-4, -12), corner, (-4, 0, -12, -10))
        tell(self, (5, 5), corner, (5, 5, 5, 5))
        tell(self, (-GREAT, -GREAT), corner, (-GREAT, GREAT, -GREAT, GREAT))

    def test_has_at_each_corner_and_beside_it(self):
        for box in ((0, 4, 10, 12), (-3, -3, 2, 5), (7, 7, 7, 7), (-GREAT, GREAT, -GREAT, GREAT)):
            for u, beside_u in ((box[0], -1), (box[1], 1)):
                for v, beside_v in ((box[2], -1), (box[3], 1)):
                    tell(self, True, has, box, (u, v))
                    tell(self, False, has, box, (u + beside_u, v))
                    tell(self, False, has, box, (u, v + beside_v))
                    tell(self, False, has, box, (u + beside_u, v + beside_v))

    def test_has_in_small_boxes(self):
        field = list(itertools.product(range(-3, 5), repeat=2))
        for box in small_boxes():
            inside = spots_of(box)
            for spot in field:
                self.assertIs(has(box, spot), spot in inside, (box, spot))


if __name__ == "__main__":
    unittest.main()
