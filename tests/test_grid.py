import inspect
import math
import random
import unittest

from hillcut.grid import inside_count, rim_count
from samples import (
    BEYOND, GREAT, area_by_rim, box, built, every_small_hill, great_hills, lies_by_height, long_hills, random_hills,
    shaped_hills, unchanged,
)

PEAK = [(0, 0), (2, 4), (4, 0)]


def rim_by_divisors(points):
    return sum(
        math.gcd(points[place][0] - points[place - 1][0], points[place][1] - points[place - 1][1])
        for place in range(len(points))
    )


class Counts(unittest.TestCase):
    def counts(self, points):
        rim = unchanged(self, rim_count, points)
        inside = unchanged(self, inside_count, points)
        self.assertEqual([type(rim), type(inside)], [int, int])
        return rim, inside

    def hold_one_by_one(self, points):
        told = [lies_by_height(points, spot) for spot in box(points)]
        self.assertEqual(self.counts(points), (told.count("on"), told.count("in")), points)

    def hold_by_area(self, points):
        rim, inside = self.counts(points)
        self.assertEqual(rim, rim_by_divisors(points))
        self.assertEqual(area_by_rim(points), 2 * inside + rim - 2, points)
        self.assertGreaterEqual(inside, 0)

    def test_arguments(self):
        for function in (rim_count, inside_count):
            self.assertEqual(list(inspect.signature(function).parameters), ["points"])
        self.assertEqual((rim_count(points=PEAK), inside_count(points=PEAK)), (8, 5))

    def test_ordinary(self):
        self.assertEqual(self.counts([(0, 0), (1, 1), (2, 0)]), (4, 0))
        self.assertEqual(self.counts([(0, 0), (1, 2), (2, 0)]), (4, 1))
        self.assertEqual(self.counts([(0, 0), (1, 1), (3, 0)]), (5, 0))
        self.assertEqual(self.counts([(-3, 0), (0, 3), (3, 0)]), (12, 4))
        self.assertEqual(self.counts([(0, 0), (1, 3), (2, 1), (3, 4), (5, 0)]), (10, 6))

    def test_no_spot_within(self):
        for many in (3, 4, 9, 210):
            points = built(0, [1] * (many - 1), [1] * (many - 2))
            self.assertEqual(self.counts(points), (2 * many - 2, 0))

    def test_small_hills_counted_one_by_one(self):
        for points in every_small_hill():
            self.hold_one_by_one(points)
            self.hold_by_area(points)

    def test_other_hills_counted_one_by_one(self):
        chance = random.Random(51)
        hills = [points for points in random_hills(chance) if points[-1][0] - points[0][0] < 100]
        self.assertGreater(len(hills), 60)
        for points in shaped_hills() + hills:
            self.hold_one_by_one(points)

    def test_every_kind_of_step_counted_one_by_one(self):
        for wide in range(1, 9):
            for high in range(1, 9):
                self.hold_one_by_one([(0, 0), (wide, high), (wide + 6, 0)])
                self.hold_one_by_one([(-6, 0), (0, high), (wide, 0)])
                self.hold_one_by_one([(-1, 0), (0, 3), (wide, 3 + high), (wide + 1, 0)])

    def test_great_hills_by_their_area(self):
        chance = random.Random(52)
        for points in great_hills() + random_hills(chance) + long_hills(chance):
            self.hold_by_area(points)

    def test_very_great_numbers(self):
        self.assertEqual(self.counts([(-GREAT, 0), (0, GREAT), (GREAT, 0)]), (4 * GREAT, (GREAT - 1) ** 2))
        self.assertEqual(self.counts([(-GREAT, 0), (0, 1), (GREAT, 0)]), (2 * GREAT + 2, 0))
        self.assertEqual(self.counts([(0, 0), (1, GREAT), (2, 0)]), (4, GREAT - 1))
        self.assertEqual(self.counts([(0, 0), (1, BEYOND), (2, 0)]), (4, BEYOND - 1))

    def test_where_a_hill_stands_does_not_count(self):
        for far in (-GREAT, -3, 5, GREAT):
            for points in shaped_hills():
                self.assertEqual(self.counts([(x + far, y) for x, y in points]), self.counts(points))


if __name__ == "__main__":
    unittest.main()
