import inspect
import random
import unittest

from hillcut.cutting import cut, locate
from hillcut.errors import HillError, NoHill, NoPlace, NoRing
from hillcut.grid import inside_count, rim_count
from hillcut.hills import area, lies, rope, sees
from samples import (
    BEYOND, GREAT, STRANGE_PLACES, STRANGE_SPOTS, area_by_rim, back_height, box, built, cross, every_small_hill,
    great_hills, lies_by_height, line_height, long_hills, no_hills, random_hills, shaped_hills, unchanged,
)

SMALL = list(every_small_hill())
PEAK = [(0, 0), (2, 4), (4, 0)]


class Refused(unittest.TestCase):
    def refused(self, *call):
        with self.assertRaises(NoHill, msg=call) as caught:
            unchanged(self, *call)
        self.assertIs(type(caught.exception), NoHill)
        self.assertIsInstance(caught.exception, HillError)
        self.assertNotIsInstance(caught.exception, (NoRing, NoPlace))

    def test_by_every_function(self):
        for points in no_hills():
            for function in (area, rope, cut, rim_count, inside_count):
                self.refused(function, points)

    def test_whatever_the_spot(self):
        for points in no_hills():
            for spot in STRANGE_SPOTS:
                self.refused(lies, points, spot)
                self.refused(locate, points, spot)

    def test_whatever_the_places(self):
        for points in no_hills():
            for one, two in STRANGE_PLACES:
                self.refused(sees, points, one, two)

    def test_what_is_a_hill_is_not_refused(self):
        for points in SMALL[:80] + shaped_hills() + great_hills():
            for function in (area, rope, cut, rim_count, inside_count):
                unchanged(self, function, points)
            for function in (lies, locate):
                for spot in STRANGE_SPOTS:
                    unchanged(self, function, points, spot)
            unchanged(self, sees, points, 0, 2)


class Area(unittest.TestCase):
    def hold(self, points):
        answer = unchanged(self, area, points)
        self.assertIs(type(answer), int)
        self.assertEqual(answer, area_by_rim(points), points)
        return answer

    def test_arguments(self):
        self.assertEqual(list(inspect.signature(area).parameters), ["points"])
        self.assertEqual(area(points=PEAK), 16)

    def test_ordinary(self):
        self.assertEqual(self.hold([(0, 0), (1, 1), (2, 0)]), 2)
        self.assertEqual(self.hold([(0, 0), (1, 1), (3, 0)]), 3)
        self.assertEqual(self.hold([(-7, 0), (-2, 6), (3, 0)]), 60)
        self.assertEqual(self.hold([(0, 0), (1, 3), (2, 1), (3, 4), (5, 0)]), 20)
        self.assertEqual(self.hold([(0, 0), (1, 2), (2, 2), (3, 2), (4, 0)]), 12)

    def test_small_hills(self):
        for points in SMALL:
            self.hold(points)

    def test_other_hills(self):
        chance = random.Random(31)
        for points in shaped_hills() + great_hills() + random_hills(chance) + long_hills(chance):
            self.hold(points)

    def test_very_great_numbers(self):
        self.assertEqual(self.hold([(-GREAT, 0), (0, GREAT), (GREAT, 0)]), 2 * GREAT * GREAT)
        self.assertEqual(self.hold([(-GREAT, 0), (0, 1), (GREAT, 0)]), 2 * GREAT)
        self.assertEqual(self.hold([(0, 0), (1, BEYOND), (3, 0)]), 3 * BEYOND)

    def test_where_a_hill_stands_does_not_count(self):
        for far in (-GREAT, -3, 5, GREAT):
            for points in shaped_hills():
                self.assertEqual(area([(x + far, y) for x, y in points]), area(points))


class Lies(unittest.TestCase):
    def hold(self, points, spot):
        answer = unchanged(self, lies, points, spot)
        self.assertIs(type(answer), str)
        self.assertEqual(answer, lies_by_height(points, spot), (points, spot))
        return answer

    def test_arguments(self):
        self.assertEqual(list(inspect.signature(lies).parameters), ["points", "spot"])
        self.assertEqual(lies(spot=(2, 1), points=PEAK), "in")

    def test_a_peak(self):
        for spot in ((2, 1), (2, 2), (2, 3), (1, 1), (3, 1)):
            self.assertEqual(self.hold(PEAK, spot), "in")
        for spot in ((0, 0), (1, 2), (2, 4), (3, 2), (4, 0), (1, 0), (2, 0), (3, 0)):
            self.assertEqual(self.hold(PEAK, spot), "on")
        for spot in ((-1, 0), (5, 0), (0, 1), (4, 1), (1, 3), (2, 5), (0, -1), (2, -1), (4, -1), (-1, 2), (5, 2)):
            self.assertEqual(self.hold(PEAK, spot), "out")

    def test_on_the_line_of_a_step_but_beyond_it(self):
        points = [(0, 0), (2, 4), (4, 4), (6, 2), (7, 0)]
        for spot in ((-1, -2), (3, 6), (1, 4), (5, 4), (3, 5), (8, 0), (0, 8), (8, -2)):
            self.assertEqual(self.hold(points, spot), "out")
        self.assertEqual(self.hold([(0, 0), (2, 4), (4, 1), (6, 4), (8, 0)], (4, 2)), "out")
        self.assertEqual(self.hold([(0, 0), (2, 1), (4, 9), (6, 0)], (4, 2)), "in")

    def test_above_and_below_each_point(self):
        for points in shaped_hills():
            for x, y in points:
                self.assertEqual(self.hold(points, (x, y)), "on")
                self.assertEqual(self.hold(points, (x, y + 1)), "out")
                self.assertEqual(self.hold(points, (x, y - 1)), "out" if y == 0 else "on" if y == 1 else "in")
                self.assertEqual(self.hold(points, (x, 0)), "on")
                self.assertEqual(self.hold(points, (x, -1)), "out")

    def test_every_spot_of_a_box_round_small_hills(self):
        for points in SMALL + shaped_hills():
            for spot in box(points):
                self.hold(points, spot)

    def test_very_great_numbers(self):
        for points in great_hills():
            for x, y in points:
                for wide in (-GREAT, -1, 0, 1, GREAT):
                    for high in (-GREAT, -1, 0, 1, GREAT):
                        self.hold(points, (x + wide, y + high))
            self.hold(points, (BEYOND, 0))
            self.hold(points, (-BEYOND, 0))

    def test_a_hair_beside_a_great_step(self):
        points = [(0, 0), (GREAT, GREAT - 1), (GREAT + 5, 0)]
        self.assertEqual(self.hold(points, (GREAT - 1, GREAT - 2)), "in")
        self.assertEqual(self.hold(points, (GREAT - 1, GREAT - 1)), "out")
        self.assertEqual(self.hold(points, (1, 1)), "out")
        self.assertEqual(self.hold(points, (1, 0)), "on")

    def test_random_hills(self):
        chance = random.Random(32)
        for points in random_hills(chance) + long_hills(chance):
            for turn in range(12):
                x = chance.randint(points[0][0] - 1, points[-1][0] + 1)
                height = back_height(points, x)
                top = 0 if height is None else height.numerator // height.denominator
                for y in (-1, 0, 1, top // 2, top - 1, top, top + 1):
                    self.hold(points, (x, y))


class Sees(unittest.TestCase):
    def hold(self, points):
        for left in range(len(points)):
            for right in range(left, len(points)):
                seen = all(
                    points[place][1] <= line_height(points[left], points[right], points[place][0])
                    for place in range(left + 1, right)
                )
                self.assertIs(unchanged(self, sees, points, left, right), seen, (points, left, right))
                self.assertIs(unchanged(self, sees, points, right, left), seen, (points, right, left))

    def test_arguments(self):
        self.assertEqual(list(inspect.signature(sees).parameters), ["points", "one", "two"])
        self.assertIs(sees(two=2, one=0, points=PEAK), False)

    def test_neighbours_and_a_point_itself(self):
        for points in shaped_hills() + great_hills():
            for place in range(len(points)):
                self.assertIs(sees(points, place, place), True)
            for place in range(1, len(points)):
                self.assertIs(sees(points, place - 1, place), True)
                self.assertIs(sees(points, place, place - 1), True)

    def test_a_point_just_on_the_line(self):
        points = [(0, 0), (1, 1), (2, 2), (3, 3), (4, 0)]
        self.assertIs(sees(points, 0, 3), True)
        self.assertIs(sees(points, 3, 0), True)
        self.assertIs(sees(points, 0, 2), True)
        self.assertIs(sees(points, 0, 4), False)
        level = [(0, 0), (1, 2), (2, 2), (3, 2), (4, 0)]
        self.assertIs(sees(level, 1, 3), True)
        self.assertIs(sees(level, 3, 1), True)

    def test_a_point_above_the_line(self):
        points = [(0, 0), (1, 2), (2, 3), (3, 2), (4, 0)]
        self.assertIs(sees(points, 1, 3), False)
        self.assertIs(sees(points, 3, 1), False)
        self.assertIs(sees(points, 0, 2), False)

    def test_over_a_dent(self):
        points = [(0, 0), (1, 5), (2, 1), (3, 1), (4, 5), (5, 0)]
        self.assertIs(sees(points, 1, 4), True)
        self.assertIs(sees(points, 4, 1), True)
        self.assertIs(sees(points, 0, 4), False)
        self.assertIs(sees(points, 1, 5), False)

    def test_points_not_between_do_not_hinder(self):
        points = [(0, 0), (1, 9), (2, 4), (3, 1), (4, 4), (5, 9), (6, 0)]
        self.assertIs(sees(points, 2, 4), True)
        self.assertIs(sees(points, 4, 2), True)

    def test_the_one_that_hinders_may_stand_anywhere_between(self):
        for place in range(2, 9):
            heights = [5] + [1] * 7 + [5]
            heights[place - 1] = 6
            points = built(0, [3] * 10, heights)
            self.assertIs(sees(points, 1, 9), False)
            self.assertIs(sees(points, 9, 1), False)
            heights[place - 1] = 5
            points = built(0, [3] * 10, heights)
            self.assertIs(sees(points, 1, 9), True)

    def test_the_ends_never_see_one_another(self):
        for points in SMALL:
            self.assertIs(sees(points, 0, len(points) - 1), False)
            self.assertIs(sees(points, len(points) - 1, 0), False)

    def test_all_pairs(self):
        chance = random.Random(33)
        for points in SMALL + shaped_hills() + great_hills() + random_hills(chance):
            self.hold(points)

    def test_long_hills(self):
        bowl = built(0, [1] * 209, [place * place + 1 for place in range(-104, 104)])
        dome = built(0, [1] * 209, [(place + 1) * (208 - place) for place in range(208)])
        for one, two in ((1, 208), (208, 1), (1, 100), (57, 58), (200, 90)):
            self.assertIs(sees(bowl, one, two), True)
            self.assertIs(sees(dome, one, two), abs(one - two) == 1)

    def test_no_place(self):
        for points in [PEAK] + shaped_hills()[2:6] + great_hills():
            many = len(points)
            strange = (-1, -2, -many, -GREAT, many, many + 1, 2 * many, GREAT)
            pairs = [(wrong, right) for wrong in strange for right in (0, 1, many - 1)]
            pairs += [(right, wrong) for wrong, right in pairs]
            pairs += [(wrong, other) for wrong in strange for other in strange]
            for one, two in pairs:
                with self.assertRaises(NoPlace, msg=(points, one, two)) as caught:
                    unchanged(self, sees, points, one, two)
                self.assertIs(type(caught.exception), NoPlace)
                self.assertIsInstance(caught.exception, HillError)
                self.assertNotIsInstance(caught.exception, (NoHill, NoRing))

    def test_first_and_last_place_are_places(self):
        for points in (PEAK, built(0, [1] * 209, [1] * 208), built(0, [1] * 229, [1] * 228)):
            self.assertIs(sees(points, len(points) - 1, len(points) - 1), True)
            self.assertIs(sees(points, len(points) - 2, len(points) - 1), True)
            self.assertIs(sees(points, 0, 0), True)


class Rope(unittest.TestCase):
    def hold(self, points):
        answer = unchanged(self, rope, points)
        self.assertIs(type(answer), list)
        self.assertTrue(all(type(place) is int for place in answer))
        self.assertGreaterEqual(len(answer), 3)
        self.assertEqual(answer, sorted(set(answer)))
        self.assertEqual((answer[0], answer[-1]), (0, len(points) - 1))
        for left, middle, right in zip(answer, answer[1:], answer[2:]):
            self.assertLess(cross(points[left], points[middle], points[right]), 0, (points, answer))
        corners = [points[place] for place in answer]
        for x, y in points:
            self.assertLessEqual(y, back_height(corners, x), (points, answer))
        return answer

    def test_arguments(self):
        self.assertEqual(list(inspect.signature(rope).parameters), ["points"])
        self.assertEqual(rope(points=PEAK), [0, 1, 2])

    def test_ordinary(self):
        self.assertEqual(self.hold([(0, 0), (1, 3), (2, 1), (3, 4), (5, 0)]), [0, 1, 3, 4])
        self.assertEqual(self.hold([(0, 0), (1, 1), (2, 4), (3, 1), (4, 0)]), [0, 2, 4])
        self.assertEqual(self.hold([(0, 0), (1, 4), (2, 6), (3, 6), (4, 3), (5, 0)]), [0, 1, 2, 3, 5])

    def test_points_on_a_straight_step_are_no_corners(self):
        self.assertEqual(self.hold([(0, 0), (1, 1), (2, 2), (3, 3), (4, 0)]), [0, 3, 4])
        self.assertEqual(self.hold([(0, 0), (3, 3), (4, 2), (5, 1), (6, 0)]), [0, 1, 4])
        self.assertEqual(self.hold([(0, 0), (1, 2), (2, 2), (3, 2), (4, 2), (5, 0)]), [0, 1, 4, 5])
        self.assertEqual(self.hold([(0, 0), (1, 3), (2, 1), (3, 3), (4, 1), (5, 3), (6, 0)]), [0, 1, 5, 6])

    def test_one_more_or_less(self):
        self.assertEqual(self.hold([(0, 0), (2, 1), (4, 3), (5, 0)]), [0, 2, 3])
        self.assertEqual(self.hold([(0, 0), (2, 2), (4, 4), (5, 0)]), [0, 2, 3])
        self.assertEqual(self.hold([(0, 0), (2, 3), (4, 4), (5, 0)]), [0, 1, 2, 3])

    def test_small_hills(self):
        for points in SMALL:
            self.hold(points)

    def test_other_hills(self):
        chance = random.Random(34)
        for points in shaped_hills() + great_hills() + random_hills(chance) + long_hills(chance):
            self.hold(points)

    def test_very_great_numbers(self):
        half = GREAT // 2
        self.assertEqual(self.hold([(0, 0), (half, half), (GREAT - 1, GREAT - 1), (GREAT, 0)]), [0, 2, 3])
        self.assertEqual(self.hold([(0, 0), (half, half), (GREAT - 1, GREAT - 2), (GREAT, 0)]), [0, 1, 2, 3])
        self.assertEqual(self.hold([(0, 0), (half, half), (GREAT - 1, GREAT), (GREAT, 0)]), [0, 2, 3])

    def test_long_hills(self):
        dome = built(0, [1] * 209, [(place + 1) * (208 - place) for place in range(208)])
        self.assertEqual(self.hold(dome)[:3], [0, 1, 2])
        self.assertEqual(len(self.hold(dome)), 210)
        bowl = built(0, [1] * 209, [place * place + 1 for place in range(-104, 105)][:208])
        self.assertEqual(self.hold(bowl), [0, 1, 208, 209])

    def test_a_call_knows_nothing_of_the_one_ahead(self):
        rope(PEAK).clear()
        self.assertEqual(rope(PEAK), [0, 1, 2])


if __name__ == "__main__":
    unittest.main()
