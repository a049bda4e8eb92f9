import inspect
import itertools
import random
import unittest

from hillcut.errors import HillError, NoHill, NoPlace, NoRing
from hillcut.rings import fan, farthest, hull, lies_in
from samples import BEYOND, GREAT, box, cross, unchanged

FEW = [(x, y) for x in range(3) for y in range(3)]

# Each goes round to the left and begins with its least point.
RINGS = (
    [(0, 0), (1, 0), (0, 1)],
    [(0, 0), (4, 0), (4, 3)],
    [(-3, -1), (2, -4), (5, 5)],
    [(0, 0), (3, 0), (3, 3), (0, 3)],
    [(0, 2), (2, 0), (4, 2), (2, 4)],
    [(-1, 0), (0, -1), (2, -1), (3, 1), (2, 3), (0, 2)],
    [(0, 1), (1, 0), (2, 0), (3, 1), (3, 2), (2, 3), (1, 3), (0, 2)],
    [(0, 0), (6, -1), (7, 5)],
)

NO_RINGS = (
    # fewer than three corners
    [],
    [(0, 0)],
    [(0, 0), (1, 0)],
    [(0, 0), (0, 0)],
    # all on one line
    [(0, 0), (1, 0), (2, 0)],
    [(0, 0), (0, 1), (0, 2)],
    [(0, 0), (1, 1), (2, 2)],
    [(0, 0), (2, 2), (1, 1)],
    [(-2, 3), (0, 0), (2, -3), (4, -6)],
    [(5, 5), (5, 5), (5, 5)],
    [(0, 0), (1, 1), (0, 0)],
    # another first corner
    [(1, 0), (0, 1), (0, 0)],
    [(0, 1), (0, 0), (1, 0)],
    [(3, 0), (3, 3), (0, 3), (0, 0)],
    [(0, 3), (0, 0), (3, 0), (3, 3)],
    [(2, 0), (4, 2), (2, 4), (0, 2)],
    # the other way round
    [(0, 0), (0, 1), (1, 0)],
    [(0, 0), (0, 3), (3, 3), (3, 0)],
    [(0, 2), (2, 4), (4, 2), (2, 0)],
    # a corner twice
    [(0, 0), (0, 0), (1, 0), (0, 1)],
    [(0, 0), (1, 0), (1, 0), (0, 1)],
    [(0, 0), (1, 0), (0, 1), (0, 1)],
    [(0, 0), (1, 0), (0, 1), (0, 0)],
    [(0, 0), (1, 0), (0, 1), (0, 0), (1, 0), (0, 1)],
    # a corner on a side
    [(0, 0), (1, 0), (2, 0), (0, 2)],
    [(0, 0), (2, 0), (1, 1), (0, 2)],
    [(0, 0), (2, 0), (0, 2), (0, 1)],
    [(0, 0), (3, 0), (3, 3), (0, 3), (0, 1)],
    # a dent, or a corner within
    [(0, 0), (4, 0), (1, 1), (0, 4)],
    [(0, 0), (4, 0), (4, 4), (2, 1)],
    [(0, 0), (1, 2), (4, 0), (4, 4), (0, 4)],
    # sides that cross one another
    [(0, 0), (3, 3), (3, 0), (0, 3)],
    [(0, 0), (3, 0), (0, 3), (3, 3)],
    # twice round, with a turn to the left at every corner
    [(-10, 3), (10, 3), (-6, -8), (0, 10), (6, -8)],
)


def is_ring(corners):
    """Point 4 and point 5, word by word."""
    many = len(corners)
    if many < 3 or len(set(corners)) < many or corners[0] != min(corners):
        return False
    for place in range(many):
        one, two, three = (corners[(place + more) % many] for more in range(3))
        if cross(one, two, three) <= 0 or any(cross(one, two, other) < 0 for other in corners):
            return False
    return True


def on_one_line(points):
    least, greatest = min(points), max(points)
    return all(cross(least, greatest, point) == 0 for point in points)


def between(one, two, spot):
    return cross(one, two, spot) == 0 and all(
        min(one[part], two[part]) <= spot[part] <= max(one[part], two[part]) for part in (0, 1)
    )


def lies_by_crossings(corners, spot):
    sides = [(corners[place - 1], corners[place]) for place in range(len(corners))]
    if any(between(one, two, spot) for one, two in sides):
        return "on"
    crossed = 0
    for one, two in sides:
        low, high = sorted((one, two), key=lambda point: point[1])
        if low[1] <= spot[1] < high[1] and cross(low, high, spot) > 0:
            crossed += 1
    return "in" if crossed % 2 else "out"


def some_points(chance, many, bound):
    return [(chance.randint(-bound, bound), chance.randint(-bound, bound)) for place in range(many)]


def many_lists(chance):
    for many in (1, 2, 3, 4, 5, 8, 13, 40):
        for bound in (0, 1, 2, 4, 60, 10 ** 20, GREAT):
            for turn in range(6):
                yield some_points(chance, many, bound)
    for bound in (3, 9, 1000, GREAT):
        yield some_points(chance, 210, bound)


def bowl(many, wide=1):
    """A ring of so many corners, all on a line that bends upwards, the last one excepted."""
    return [(wide * place, wide * wide * place * place) for place in range(many)]


def great_square():
    return [(-GREAT, -GREAT), (GREAT, -GREAT), (GREAT, GREAT), (-GREAT, GREAT)]


class Hull(unittest.TestCase):
    def hold(self, points):
        answer = unchanged(self, hull, points)
        self.assertIs(type(answer), list)
        self.assertIsNot(answer, points)
        self.assertTrue(all(corner in points for corner in answer), answer)
        self.assertEqual(len(set(answer)), len(answer))
        self.assertTrue(all(type(corner) is tuple for corner in answer))
        if len(set(points)) < 2:
            self.assertEqual(answer, points[:1])
        elif on_one_line(points):
            self.assertEqual(answer, [min(points), max(points)])
        else:
            self.assertEqual(answer[0], min(points))
            self.assertTrue(is_ring(answer), answer)
            for place in range(len(answer)):
                one, two = answer[place - 1], answer[place]
                self.assertTrue(all(cross(one, two, point) >= 0 for point in points), (points, answer))
        return answer

    def test_arguments(self):
        self.assertEqual(list(inspect.signature(hull).parameters), ["points"])
        self.assertEqual(hull(points=[(1, 2)]), [(1, 2)])

    def test_no_point(self):
        points = []
        self.assertEqual(self.hold(points), [])

    def test_one_point(self):
        for spot in ((0, 0), (-3, 8), (GREAT, -GREAT)):
            self.assertEqual(self.hold([spot]), [spot])

    def test_one_spot_several_times(self):
        for times in (2, 3, 7, 210):
            self.assertEqual(self.hold([(4, -2)] * times), [(4, -2)])

    def test_two_points(self):
        self.assertEqual(self.hold([(0, 0), (3, -4)]), [(0, 0), (3, -4)])
        self.assertEqual(self.hold([(3, -4), (0, 0)]), [(0, 0), (3, -4)])
        self.assertEqual(self.hold([(3, 4), (3, -4)]), [(3, -4), (3, 4)])
        self.assertEqual(self.hold([(3, 4), (0, 4), (3, 4), (0, 4)]), [(0, 4), (3, 4)])

    def test_one_line(self):
        chance = random.Random(21)
        for step in ((0, 1), (1, 0), (2, 3), (3, -2), (-1, -1), (0, GREAT // 9), (GREAT // 9, 1 - GREAT // 9)):
            for times in ((0, 1, 2), (2, 1, 0), (1, 1, 4, 4, 2), (5, 0, 5, 3, 0, 0), tuple(range(-4, 5))):
                line = [(7 + time * step[0], -2 + time * step[1]) for time in times]
                for turn in range(3):
                    chance.shuffle(line)
                    self.assertEqual(self.hold(line), [min(line), max(line)])

    def test_all_but_one_on_a_line(self):
        self.assertEqual(self.hold([(0, 0), (1, 1), (2, 2), (3, 3), (2, 1)]), [(0, 0), (2, 1), (3, 3)])
        self.assertEqual(self.hold([(0, 3), (0, 1), (0, 2), (0, 0), (-1, 1)]), [(-1, 1), (0, 0), (0, 3)])
        self.assertEqual(self.hold([(0, 3), (0, 1), (0, 2), (0, 0), (1, 1)]), [(0, 0), (1, 1), (0, 3)])
        self.assertEqual(self.hold([(0, 5), (1, 5), (2, 5), (3, 5), (1, 9)]), [(0, 5), (3, 5), (1, 9)])

    def test_ordinary(self):
        points = [(2, 2), (0, 0), (4, 1), (1, 3), (2, 1), (4, 4), (0, 4), (3, 0)]
        self.assertEqual(self.hold(points), [(0, 0), (3, 0), (4, 1), (4, 4), (0, 4)])

    def test_points_on_sides_are_no_corners(self):
        points = [(x, y) for x in range(4) for y in range(4)]
        self.assertEqual(self.hold(points), [(0, 0), (3, 0), (3, 3), (0, 3)])
        self.assertEqual(self.hold(points[::-1] * 3), [(0, 0), (3, 0), (3, 3), (0, 3)])

    def test_least_point_first(self):
        # Of several with the least x the lowest one, not the one with the least height of all.
        self.assertEqual(hull([(1, -9), (0, 5), (0, 2), (3, 3)])[0], (0, 2))
        self.assertEqual(hull([(0, 2), (1, -9), (3, 3), (0, 5)]), [(0, 2), (1, -9), (3, 3), (0, 5)])

    def test_a_ring_is_the_ring_round_itself(self):
        chance = random.Random(22)
        for ring in RINGS:
            shuffled = list(ring)
            for turn in range(5):
                chance.shuffle(shuffled)
                self.assertEqual(self.hold(shuffled), ring)

    def test_every_short_list_of_a_small_grid(self):
        for many in (1, 2, 3, 4):
            for points in itertools.product(FEW, repeat=many):
                self.hold(list(points))

    def test_many_lists(self):
        for points in many_lists(random.Random(23)):
            self.hold(points)

    def test_two_hundred_and_ten_corners(self):
        for wide in (1, 10 ** 45):
            ring = bowl(210, wide)
            shuffled = list(ring)
            random.Random(24).shuffle(shuffled)
            self.assertEqual(self.hold(shuffled), ring)

    def test_hundred_figures(self):
        middle = [(0, 0), (GREAT, 0), (-GREAT, 5), (1, -GREAT)]
        self.assertEqual(self.hold(middle + great_square()[::-1]), great_square())

    def test_a_hair_beside_a_long_line(self):
        ends = [(-GREAT, -GREAT), (GREAT, GREAT - 1)]
        for spot, place in (((0, -1), 1), ((0, 0), 2), ((GREAT - 1, GREAT - 2), 1), ((1 - GREAT, 1 - GREAT), 2)):
            answer = self.hold(ends + [spot])
            self.assertEqual(answer.index(spot), place)
        self.assertEqual(self.hold([(-GREAT, -GREAT), (GREAT, GREAT), (7, 7)]), [(-GREAT, -GREAT), (GREAT, GREAT)])

    def test_beyond_the_bounds_nothing_is_refused(self):
        self.hold(some_points(random.Random(25), 230, BEYOND))
        self.assertEqual(hull(bowl(230)), bowl(230))

    def test_a_call_knows_nothing_of_the_one_ahead(self):
        points = [(0, 0), (1, 0), (0, 1)]
        hull(points).append((9, 9))
        self.assertEqual(hull(points), [(0, 0), (1, 0), (0, 1)])
        points[2] = (0, -1)
        self.assertEqual(hull(points), [(0, -1), (1, 0), (0, 0)])


class Farthest(unittest.TestCase):
    def hold(self, points):
        answer = unchanged(self, farthest, points)
        self.assertIs(type(answer), int)
        squares = [(a - c) ** 2 + (b - d) ** 2 for (a, b), (c, d) in itertools.combinations(points, 2)]
        self.assertEqual(answer, max(squares, default=0), points)
        return answer

    def test_arguments(self):
        self.assertEqual(list(inspect.signature(farthest).parameters), ["points"])
        self.assertEqual(farthest(points=[(1, 2), (4, 6)]), 25)

    def test_no_point(self):
        self.assertIsNone(unchanged(self, farthest, []))

    def test_one_point(self):
        for spot in ((0, 0), (5, -6), (GREAT, GREAT)):
            self.assertEqual(self.hold([spot]), 0)

    def test_one_spot_several_times(self):
        for times in (2, 3, 210):
            self.assertEqual(self.hold([(3, -3)] * times), 0)

    def test_ordinary(self):
        self.assertEqual(self.hold([(0, 0), (3, 4)]), 25)
        self.assertEqual(self.hold([(0, 0), (1, 1), (3, 4), (2, -2)]), 37)
        self.assertEqual(self.hold([(0, 0), (5, 0), (0, 5), (5, 5)]), 50)
        # By the sum of both widths, or by the greater one, another pair would be farthest.
        self.assertEqual(self.hold([(0, 0), (3, 3), (0, 5)]), 25)
        self.assertEqual(self.hold([(0, 0), (4, 4), (4, -1)]), 32)

    def test_the_pair_may_stand_anywhere(self):
        for one, other in itertools.permutations(range(6), 2):
            points = [(place, -place) for place in range(6)]
            points[one], points[other] = (-50, 3), (60, 4)
            self.assertEqual(self.hold(points), 110 * 110 + 1)

    def test_one_line(self):
        self.assertEqual(self.hold([(4, 1), (4, -9), (4, 3), (4, 3)]), 144)
        self.assertEqual(self.hold([(1, 4), (-9, 4), (3, 4), (3, 4)]), 144)
        self.assertEqual(self.hold([(place, 2 * place) for place in range(10)]), 405)

    def test_every_short_list_of_a_small_grid(self):
        for many in (1, 2, 3, 4):
            for points in itertools.product(FEW, repeat=many):
                self.hold(list(points))

    def test_many_lists(self):
        for points in many_lists(random.Random(26)):
            self.hold(points)

    def test_hundred_figures(self):
        self.assertEqual(self.hold(great_square()), 8 * GREAT * GREAT)
        self.assertEqual(self.hold([(-GREAT, 0), (0, 0), (GREAT - 1, 0)]), (2 * GREAT - 1) ** 2)

    def test_beyond_the_bounds_nothing_is_refused(self):
        self.hold(some_points(random.Random(27), 230, BEYOND))


class Refused(unittest.TestCase):
    def refused(self, corners):
        calls = [(fan, corners)] + [(lies_in, corners, spot) for spot in ((0, 0), (1, 1), (GREAT, -GREAT))]
        for call in calls:
            with self.assertRaises(NoRing, msg=call) as caught:
                unchanged(self, *call)
            self.assertIs(type(caught.exception), NoRing)
            self.assertIsInstance(caught.exception, HillError)
            self.assertNotIsInstance(caught.exception, (NoHill, NoPlace))

    def test_each_kind(self):
        for corners in NO_RINGS:
            with self.subTest(corners=corners):
                self.refused(list(corners))

    def test_every_other_order_of_a_ring(self):
        for ring in RINGS:
            for corners in itertools.permutations(ring) if len(ring) < 7 else ():
                if list(corners) != ring:
                    self.refused(list(corners))

    def test_every_other_first_corner(self):
        for ring in RINGS + (bowl(40),):
            for place in range(1, len(ring)):
                self.refused(ring[place:] + ring[:place])

    def test_a_corner_twice(self):
        for ring in RINGS + (bowl(9),):
            for place in range(len(ring)):
                self.refused(ring[:place] + ring[place:place + 1] + ring[place:])
                self.refused(ring + [ring[place]])
            self.refused(ring + ring)

    def test_a_corner_on_each_side(self):
        for ring in RINGS:
            doubled = [(2 * x, 2 * y) for x, y in ring]
            for place in range(len(ring)):
                one, two = ring[place], ring[(place + 1) % len(ring)]
                middle = (one[0] + two[0], one[1] + two[1])
                self.refused(doubled[:place + 1] + [middle] + doubled[place + 1:])

    def test_a_dent_in_each_side(self):
        for place in range(4):
            ring = [(0, 0), (10, 0), (10, 10), (0, 10)]
            dent = [(5, 1), (9, 5), (5, 9), (1, 5)][place]
            self.refused(ring[:place + 1] + [dent] + ring[place + 1:])

    def test_a_dent_by_a_hair(self):
        self.refused([(0, 0), (GREAT, GREAT - 1), (GREAT - 1, GREAT - 1), (GREAT // 2, GREAT // 2 - 1)])
        self.refused([(-GREAT, -GREAT), (0, 1), (GREAT, GREAT), (-GREAT, GREAT)])
        self.refused([(-GREAT, -GREAT), (0, 0), (GREAT, GREAT), (-GREAT, GREAT)])

    def test_every_short_list_of_a_small_grid(self):
        lists = [list(points) for many in range(5) for points in itertools.product(FEW, repeat=many)]
        lists += [list(points) for points in itertools.permutations(FEW, 5)]
        for corners in lists:
            if is_ring(corners):
                self.assertEqual(len(fan(corners)), len(corners) - 2)
                self.assertIn(lies_in(corners, (1, 1)), ("in", "on", "out"))
            else:
                self.assertRaises(NoRing, fan, corners)
                self.assertRaises(NoRing, lies_in, corners, (1, 1))

    def test_very_long_lists(self):
        self.refused([(place, 0) for place in range(210)])
        self.refused(bowl(210)[::-1])
        self.refused(bowl(209) + [(3, 9)])


class Fan(unittest.TestCase):
    def test_arguments(self):
        self.assertEqual(list(inspect.signature(fan).parameters), ["corners"])
        self.assertEqual(fan(corners=[(0, 0), (1, 0), (0, 1)]), [(0, 1, 2)])

    def test_rings(self):
        self.assertEqual(unchanged(self, fan, RINGS[0]), [(0, 1, 2)])
        self.assertEqual(unchanged(self, fan, RINGS[3]), [(0, 1, 2), (0, 2, 3)])
        self.assertEqual(unchanged(self, fan, RINGS[5]), [(0, 1, 2), (0, 2, 3), (0, 3, 4), (0, 4, 5)])
        self.assertEqual(unchanged(self, fan, great_square()), [(0, 1, 2), (0, 2, 3)])

    def test_up_to_the_last_corner(self):
        for many in (3, 4, 5, 50, 209, 210, 230):
            answer = unchanged(self, fan, bowl(many))
            self.assertIs(type(answer), list)
            self.assertEqual(answer, list(zip([0] * (many - 2), range(1, many), range(2, many))))
            self.assertEqual(len(answer), many - 2)
            self.assertEqual(answer[-1], (0, many - 2, many - 1))
            self.assertTrue(all(type(part) is int for triangle in answer for part in triangle))
            self.assertTrue(all(type(triangle) is tuple for triangle in answer))

    def test_a_call_knows_nothing_of_the_one_ahead(self):
        fan(RINGS[3]).clear()
        self.assertEqual(fan(RINGS[3]), [(0, 1, 2), (0, 2, 3)])


class LiesIn(unittest.TestCase):
    def hold(self, corners, spot):
        answer = unchanged(self, lies_in, corners, spot)
        self.assertIs(type(answer), str)
        self.assertEqual(answer, lies_by_crossings(corners, spot), (corners, spot))
        return answer

    def test_arguments(self):
        self.assertEqual(list(inspect.signature(lies_in).parameters), ["corners", "spot"])
        self.assertEqual(lies_in(spot=(0, 0), corners=[(0, 0), (1, 0), (0, 1)]), "on")

    def test_corners(self):
        for ring in RINGS:
            for corner in ring:
                self.assertEqual(self.hold(ring, corner), "on")

    def test_a_square(self):
        square = [(0, 0), (4, 0), (4, 4), (0, 4)]
        for spot in ((1, 1), (2, 2), (3, 3), (1, 3), (3, 1)):
            self.assertEqual(self.hold(square, spot), "in")
        for spot in ((2, 0), (4, 2), (2, 4), (0, 2)):
            self.assertEqual(self.hold(square, spot), "on")
        for spot in ((2, -1), (5, 2), (2, 5), (-1, 2), (-1, -1), (5, 5), (-1, 5), (5, -1)):
            self.assertEqual(self.hold(square, spot), "out")

    def test_on_the_line_of_a_side_but_beyond_it(self):
        square = [(0, 0), (4, 0), (4, 4), (0, 4)]
        for spot in ((-1, 0), (5, 0), (4, -1), (4, 5), (5, 4), (-1, 4), (0, 5), (0, -1)):
            self.assertEqual(self.hold(square, spot), "out")
        for ring in RINGS:
            for place in range(len(ring)):
                (a, b), (c, d) = ring[place - 1], ring[place]
                self.assertEqual(self.hold(ring, (2 * c - a, 2 * d - b)), "out")
                self.assertEqual(self.hold(ring, (2 * a - c, 2 * b - d)), "out")

    def test_every_spot_of_a_box(self):
        for ring in RINGS:
            for spot in box(ring, 2):
                self.hold(ring, spot)

    def test_many_rings(self):
        chance = random.Random(28)
        told = {"in": 0, "on": 0, "out": 0}
        for turn in range(60):
            ring = hull(some_points(chance, 8, 6))
            if len(ring) > 2:
                for spot in box(ring):
                    told[self.hold(ring, spot)] += 1
        self.assertTrue(all(number > 200 for number in told.values()), told)

    def test_great_rings(self):
        chance = random.Random(29)
        for many in (3, 5, 12, 60):
            ring = hull(some_points(chance, many, GREAT))
            for spot in some_points(chance, 20, GREAT) + some_points(chance, 20, 10 ** 98):
                self.hold(ring, spot)

    def test_a_hair_beside_a_great_side(self):
        ring = [(-GREAT, -GREAT), (GREAT, GREAT - 1), (0, GREAT)]
        self.assertEqual(self.hold(ring, (GREAT - 1, GREAT - 2)), "out")
        self.assertEqual(self.hold(ring, (1 - GREAT, 1 - GREAT)), "in")
        ring = [(-GREAT, -GREAT), (GREAT, GREAT), (0, GREAT)]
        for x, y, where in ((5, 5, "on"), (5, 6, "in"), (5, 4, "out"), (-GREAT - 1, -GREAT - 1, "out")):
            self.assertEqual(self.hold(ring, (x, y)), where)
        for x, y, where in ((0, 0, "in"), (GREAT, 3, "on"), (GREAT + 1, 3, "out"), (GREAT, GREAT + 1, "out")):
            self.assertEqual(self.hold(great_square(), (x, y)), where)

    def test_two_hundred_and_ten_corners(self):
        ring = bowl(210)
        for place in range(210):
            self.assertEqual(self.hold(ring, ring[place]), "on")
            self.assertEqual(self.hold(ring, (place, place * place - 1)), "out")
        for place in range(1, 209):
            where = "in" if place * place + 1 < 209 * place else "on"
            self.assertEqual(self.hold(ring, (place, place * place + 1)), where)

    def test_beyond_the_bounds_nothing_is_refused(self):
        self.assertEqual(self.hold([(-BEYOND, 0), (BEYOND, 0), (0, BEYOND)], (0, 1)), "in")
        self.assertEqual(self.hold(bowl(230), (1, 2)), "in")


if __name__ == "__main__":
    unittest.main()
