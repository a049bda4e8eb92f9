import collections
import inspect
import random
import unittest

from hillcut.cutting import cut, locate
from samples import (
    BEYOND, GREAT, area_by_rim, back_height, box, cross, every_small_hill, great_hills, lies_by_height, line_height,
    long_hills, random_hills, shaped_hills, unchanged,
)

SMALL = list(every_small_hill())
PEAK = [(0, 0), (2, 4), (4, 0)]


def covered(points, triangle, spot):
    # The three triangles from the spot to the sides are just as great together as the whole only
    # where the spot is in it or on its rim.
    one, two, three = (points[place] for place in triangle)
    parts = abs(cross(one, two, spot)) + abs(cross(two, three, spot)) + abs(cross(three, one, spot))
    return parts == abs(cross(one, two, three))


def feet_of(triangles):
    return collections.Counter((left, right) for left, middle, right in triangles)


def sides_of(triangles):
    sides = collections.Counter((left, middle) for left, middle, right in triangles)
    return sides + collections.Counter((middle, right) for left, middle, right in triangles)


class Cut(unittest.TestCase):
    def hold(self, points):
        triangles = unchanged(self, cut, points)
        self.hold_kinds(points, triangles)
        self.hold_lines(len(points), triangles)
        areas = [abs(cross(*(points[place] for place in triangle))) for triangle in triangles]
        self.assertEqual(sum(areas), area_by_rim(points))
        return triangles

    def hold_kinds(self, points, triangles):
        self.assertIs(type(triangles), list)
        self.assertEqual(len(triangles), len(points) - 2)
        for triangle in triangles:
            self.assertIs(type(triangle), tuple)
            self.assertEqual([type(place) for place in triangle], [int, int, int])
            left, middle, right = triangle
            self.assertTrue(0 <= left < middle < right < len(points), triangle)
            foot = line_height(points[left], points[right], points[middle][0])
            self.assertGreater(points[middle][1], foot, (points, triangle))

    def hold_lines(self, many, triangles):
        feet, sides = feet_of(triangles), sides_of(triangles)
        ground = (0, many - 1)
        steps = [(place - 1, place) for place in range(1, many)]
        self.assertEqual(set(feet.values()) | set(sides.values()), {1}, triangles)
        self.assertIn(ground, feet)
        self.assertNotIn(ground, sides)
        for step in steps:
            self.assertIn(step, sides)
            self.assertNotIn(step, feet)
        self.assertEqual(set(feet) - {ground}, set(sides) - set(steps))

    def test_arguments(self):
        self.assertEqual(list(inspect.signature(cut).parameters), ["points"])
        self.assertEqual(cut(points=PEAK), [(0, 1, 2)])

    def test_where_there_is_one_cut_alone(self):
        self.assertEqual(self.hold(PEAK), [(0, 1, 2)])
        dent = [(0, 0), (1, 9), (2, 1), (3, 9), (4, 0)]
        self.assertEqual(sorted(self.hold(dent)), [(0, 1, 2), (0, 2, 4), (2, 3, 4)])
        straight = [(0, 0), (1, 1), (2, 2), (3, 3), (4, 0)]
        self.assertEqual(sorted(self.hold(straight)), [(0, 1, 4), (1, 2, 4), (2, 3, 4)])
        straight = [(0, 0), (1, 3), (2, 2), (3, 1), (4, 0)]
        self.assertEqual(sorted(self.hold(straight)), [(0, 1, 2), (0, 2, 3), (0, 3, 4)])

    def test_small_hills(self):
        for points in SMALL:
            self.hold(points)

    def test_other_hills(self):
        chance = random.Random(41)
        for points in shaped_hills() + great_hills() + random_hills(chance) + long_hills(chance):
            self.hold(points)

    def test_many_points_on_one_straight_line(self):
        for many in (3, 4, 7, 100):
            rise = [(place, place) for place in range(many)]
            fall = [(2 * many - 2 - place, place) for place in range(many - 1)][::-1]
            top = [(many + place, many - 1) for place in range(5)]
            end = [(3 * many + 9, 0)]
            for points in (rise + fall, rise + end, rise[:1] + fall, rise + top + end, rise[:1] + top + end):
                self.hold(points)

    def test_no_triangle_overlaps_another(self):
        for points in SMALL + shaped_hills():
            triangles = cut(points)
            larger = [(3 * x, 3 * y) for x, y in points]
            for place, triangle in enumerate(triangles):
                middle = tuple(sum(points[corner][part] for corner in triangle) for part in (0, 1))
                within = [other for other, corners in enumerate(triangles) if covered(larger, corners, middle)]
                self.assertEqual(within, [place])

    def test_the_same_hill_has_the_same_cut(self):
        chance = random.Random(42)
        for points in random_hills(chance):
            triangles = cut(points)
            self.assertEqual(cut(list(points)), triangles)
            cut(points).clear()
            self.assertEqual(cut(points), triangles)


class Locate(unittest.TestCase):
    def hold(self, points, spot, triangles):
        answer = unchanged(self, locate, points, spot)
        places = [place for place, triangle in enumerate(triangles) if covered(points, triangle, spot)]
        if places:
            self.assertIs(type(answer), int)
            self.assertEqual(answer, places[0], (points, spot, triangles))
        else:
            self.assertIsNone(answer, (points, spot, triangles))
        self.assertEqual(answer is None, lies_by_height(points, spot) == "out", (points, spot))
        return answer

    def test_arguments(self):
        self.assertEqual(list(inspect.signature(locate).parameters), ["points", "spot"])
        self.assertEqual(locate(spot=(2, 1), points=PEAK), 0)

    def test_a_peak(self):
        for spot in ((2, 1), (0, 0), (1, 2), (2, 4), (3, 2), (4, 0), (2, 0)):
            self.assertEqual(self.hold(PEAK, spot, [(0, 1, 2)]), 0)
        for spot in ((-1, 0), (5, 0), (0, 1), (4, 1), (2, 5), (2, -1), (1, 3), (3, 6), (-1, -2), (5, -2)):
            self.assertIsNone(self.hold(PEAK, spot, [(0, 1, 2)]))

    def test_every_spot_of_a_box_round_small_hills(self):
        for points in SMALL + shaped_hills():
            triangles = cut(points)
            for spot in box(points):
                self.hold(points, spot, triangles)

    def test_a_point_of_several_triangles_is_in_the_first(self):
        told = set()
        for points in shaped_hills():
            triangles = cut(points)
            for place, point in enumerate(points):
                first = next(index for index, triangle in enumerate(triangles) if place in triangle)
                self.assertEqual(self.hold(points, point, triangles), first)
                told.add(first)
        self.assertGreater(len(told), 4)

    def test_very_great_numbers(self):
        for points in great_hills():
            triangles = cut(points)
            for x, y in points:
                for wide in (-GREAT, -1, 0, 1, GREAT):
                    for high in (-GREAT, -1, 0, 1, GREAT):
                        self.hold(points, (x + wide, y + high), triangles)
            self.assertIsNone(self.hold(points, (BEYOND + 1, 0), triangles))
            self.assertIsNone(self.hold(points, (-BEYOND, 0), triangles))

    def test_random_hills(self):
        chance = random.Random(43)
        for points in random_hills(chance) + long_hills(chance):
            triangles = cut(points)
            for turn in range(8):
                x = chance.randint(points[0][0] - 1, points[-1][0] + 1)
                height = back_height(points, x)
                top = 0 if height is None else height.numerator // height.denominator
                for y in (-1, 0, top // 3, top, top + 1):
                    self.hold(points, (x, y), triangles)

    def test_every_triangle_is_told_for_its_own_middle(self):
        for points in SMALL + shaped_hills():
            larger = [(3 * x, 3 * y) for x, y in points]
            for place, triangle in enumerate(cut(larger)):
                middle = tuple(sum(points[corner][part] for corner in triangle) for part in (0, 1))
                self.assertEqual(locate(larger, middle), place)


if __name__ == "__main__":
    unittest.main()
