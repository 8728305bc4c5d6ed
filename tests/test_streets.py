"""Places and steps, point 4."""

import unittest

from evenwires.streets import steps
from tests.helpers import ask

MILLION = 10 ** 6


class Steps(unittest.TestCase):

    def told(self, one, other, want):
        self.assertEqual(ask(self, steps, one, other), want)
        self.assertEqual(ask(self, steps, other, one), want)

    def test_small_places(self):
        self.told((0, 0), (1, 0), 1)
        self.told((0, 0), (0, 1), 1)
        self.told((0, 0), (3, 4), 7)
        self.told((1, 2), (5, 9), 11)
        self.told((1, 9), (5, 2), 11)
        self.told((2, 2), (2, 7), 5)
        self.told((2, 2), (7, 2), 5)

    def test_below_nought(self):
        self.told((-1, -1), (1, 1), 4)
        self.told((-3, 4), (3, -4), 14)
        self.told((-3, -4), (-5, -9), 7)
        self.told((-5, 0), (0, 0), 5)
        self.told((0, -5), (0, 0), 5)

    def test_alike_places(self):
        for place in ((0, 0), (5, -7), (-MILLION, MILLION)):
            self.told(place, place, 0)

    def test_at_the_bounds(self):
        self.told((-MILLION, -MILLION), (MILLION, MILLION), 4 * MILLION)
        self.told((-MILLION, MILLION), (MILLION, -MILLION), 4 * MILLION)
        self.told((-MILLION, 0), (MILLION, 0), 2 * MILLION)
        self.told((0, -MILLION), (0, MILLION), 2 * MILLION)
        self.told((MILLION, MILLION), (MILLION - 1, MILLION), 1)

    def test_the_fewest_moves_from_place_to_place(self):
        # Gone through ring by ring, so that nothing is taken from the rule.
        far = {(0, 0): 0}
        ring = [(0, 0)]
        for moves in range(1, 7):
            beyond = []
            for x, y in ring:
                for place in ((x + 1, y), (x - 1, y), (x, y + 1), (x, y - 1)):
                    if place not in far:
                        far[place] = moves
                        beyond.append(place)
            ring = beyond
        for (x, y), moves in far.items():
            self.assertEqual(steps((0, 0), (x, y)), moves)
            self.assertEqual(steps((x - 3, y + 5), (-3, 5)), moves)

    def test_a_whole_number_is_told(self):
        self.assertIs(type(steps((0, 0), (1, 0))), int)


if __name__ == "__main__":
    unittest.main()
