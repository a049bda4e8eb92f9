import inspect
import itertools
import random
import unittest

from hillcut.near import nearest

GREAT = 10 ** 100 - 1


def square(one, two):
    (a, b), (c, d) = one, two
    return (a - c) * (a - c) + (b - d) * (b - d)


def least_square(points):
    return min(square(one, two) for one, two in itertools.combinations(points, 2))


def some_points(chance, many, bound):
    return [(chance.randint(-bound, bound), chance.randint(-bound, bound)) for place in range(many)]


class Nearest(unittest.TestCase):
    def hold_against_all_pairs(self, points):
        ahead = list(points)
        answer = nearest(points)
        self.assertEqual(points, ahead)
        self.assertTrue(all(now is then for now, then in zip(points, ahead)))
        self.assertIs(type(answer), tuple)
        self.assertEqual([type(part) for part in answer], [int, int, int])
        one, other, far = answer
        self.assertTrue(0 <= one < other < len(points), answer)
        self.assertEqual(far, square(points[one], points[other]))
        self.assertEqual(far, least_square(points))
        return answer

    def test_arguments(self):
        self.assertEqual(list(inspect.signature(nearest).parameters), ["points"])
        self.assertEqual(nearest(points=[(0, 0), (1, 2)]), (0, 1, 5))

    def test_no_point(self):
        self.assertIsNone(nearest([]))

    def test_one_point(self):
        for spot in ((0, 0), (3, -4), (GREAT, -GREAT)):
            points = [spot]
            self.assertIsNone(nearest(points))
            self.assertEqual(points, [spot])

    def test_two_points(self):
        self.assertEqual(nearest([(0, 0), (3, 4)]), (0, 1, 25))
        self.assertEqual(nearest([(3, 4), (0, 0)]), (0, 1, 25))
        self.assertEqual(nearest([(-7, 2), (1, -4)]), (0, 1, 100))

    def test_two_at_one_spot(self):
        self.assertEqual(nearest([(5, -5), (5, -5)]), (0, 1, 0))
        self.assertEqual(nearest([(1, 1), (9, 9), (4, 4), (1, 1)]), (0, 3, 0))
        self.assertEqual(nearest([(9, 9), (1, 1), (4, 4), (1, 1), (2, 2)]), (1, 3, 0))

    def test_one_pair_alone_is_nearest_wherever_it_stands(self):
        # The others are so far apart that just one pair can be meant.
        for many in (3, 4, 7, 12):
            for one, other in itertools.combinations(range(many), 2):
                for step in ((1, 0), (0, 1), (-2, 3), (3, -2)):
                    points = [(100 * place, 70 * place * place) for place in range(many)]
                    points[other] = (points[one][0] + step[0], points[one][1] + step[1])
                    far = step[0] * step[0] + step[1] * step[1]
                    self.assertEqual(self.hold_against_all_pairs(points), (one, other, far))

    def test_lesser_place_first_in_falling_order_too(self):
        self.assertEqual(nearest([(50, 0), (20, 0), (19, 0), (0, 0)]), (1, 2, 1))
        self.assertEqual(nearest([(9, 9), (-20, -3), (40, 40), (-21, -3)]), (1, 3, 1))

    def test_slant_and_straight_are_told_apart(self):
        # By the sum of both widths, or by the greater one, another pair would be nearest.
        self.assertEqual(nearest([(0, 0), (3, 3), (100, 0), (100, 5)]), (0, 1, 18))
        self.assertEqual(nearest([(0, 0), (4, 4), (100, 0), (100, 5)]), (2, 3, 25))
        self.assertEqual(nearest([(0, 0), (0, 5), (100, 0), (103, 3)]), (2, 3, 18))

    def test_several_at_one_spot(self):
        self.assertEqual(self.hold_against_all_pairs([(2, 3)] * 5)[2], 0)
        self.assertEqual(self.hold_against_all_pairs([(2, 3), (7, 7)] * 4)[2], 0)
        self.assertEqual(self.hold_against_all_pairs([(2, 3)] * 210)[2], 0)

    def test_several_pairs_equally_near(self):
        self.assertEqual(self.hold_against_all_pairs([(0, 0), (0, 2), (2, 0), (2, 2)])[2], 4)
        self.assertEqual(self.hold_against_all_pairs([(place, 0) for place in range(9)])[2], 1)
        grid = [(3 * x, 3 * y) for x in range(14) for y in range(15)]
        self.assertEqual(self.hold_against_all_pairs(grid)[2], 9)

    def test_every_short_list_of_a_small_grid(self):
        few = [(x, y) for x in range(3) for y in range(3)]
        for many in (2, 3, 4):
            for points in itertools.product(few, repeat=many):
                self.hold_against_all_pairs(list(points))

    def test_many_lists(self):
        chance = random.Random(13)
        for many in (2, 3, 5, 8, 13, 40):
            for bound in (1, 5, 60, 10 ** 6, 10 ** 20, GREAT):
                for turn in range(15):
                    self.hold_against_all_pairs(some_points(chance, many, bound))

    def test_two_hundred_and_ten_points(self):
        chance = random.Random(14)
        for bound in (9, 1000, 10 ** 9, GREAT):
            self.hold_against_all_pairs(some_points(chance, 210, bound))

    def test_a_long_list_with_a_pair_at_its_two_ends(self):
        points = [(1000 * place, 0) for place in range(210)]
        points[209] = (1, 1)
        self.assertEqual(self.hold_against_all_pairs(points), (0, 209, 2))

    def test_points_above_one_another(self):
        chance = random.Random(15)
        upright = [(4, chance.randint(-GREAT, GREAT)) for place in range(60)]
        level = [(chance.randint(-GREAT, GREAT), 4) for place in range(60)]
        self.hold_against_all_pairs(upright)
        self.hold_against_all_pairs(level)

    def test_hundred_figures(self):
        points = [(-GREAT, -GREAT), (GREAT, GREAT)]
        self.assertEqual(nearest(points), (0, 1, 8 * GREAT * GREAT))
        equally_near = [(-GREAT, 0), (GREAT, 0), (0, GREAT)]
        self.assertEqual(self.hold_against_all_pairs(equally_near)[2], 2 * GREAT * GREAT)

    def test_a_hair_nearer_among_hundred_figures(self):
        self.assertEqual(nearest([(-GREAT, 0), (0, 0), (GREAT - 1, 0)]), (1, 2, (GREAT - 1) ** 2))
        self.assertEqual(nearest([(1 - GREAT, 0), (0, 0), (GREAT, 0)]), (0, 1, (GREAT - 1) ** 2))

    def test_a_call_knows_nothing_of_the_one_ahead(self):
        points = [(0, 0), (10, 0), (11, 0)]
        self.assertEqual(nearest(points), (1, 2, 1))
        self.assertEqual(nearest(points), (1, 2, 1))
        points[2] = (40, 0)
        self.assertEqual(nearest(points), (0, 1, 100))
        self.assertIsNone(nearest([]))

    def test_beyond_the_bounds_nothing_is_refused(self):
        chance = random.Random(16)
        self.hold_against_all_pairs(some_points(chance, 230, 10 ** 110))
        points = [(1000 * place, 0) for place in range(230)]
        points[229] = (1, 1)
        self.assertEqual(self.hold_against_all_pairs(points), (0, 229, 2))


if __name__ == "__main__":
    unittest.main()
