import inspect
import itertools
import random
import unittest

from hillcut.points import apart, gaps, turned

GREAT = 10 ** 100 - 1
BEYOND = 10 ** 120 + 7
FEW = [(x, y) for x in range(-2, 3) for y in range(-2, 3)]


def sign(number):
    return (number > 0) - (number < 0)


def some_point(chance, bound):
    return (chance.randint(-bound, bound), chance.randint(-bound, bound))


def area_by_rim(corners):
    # Another way to twice the area than the document's formula: the sum along the rim.
    total = 0
    for place, (x, y) in enumerate(corners):
        later_x, later_y = corners[(place + 1) % len(corners)]
        total += x * later_y - later_x * y
    return total


def spots_on_line(one, two):
    # Every spot of the box round both points is asked by itself.
    lowest_x, highest_x = min(one[0], two[0]), max(one[0], two[0])
    lowest_y, highest_y = min(one[1], two[1]), max(one[1], two[1])
    count = 0
    for x in range(lowest_x, highest_x + 1):
        for y in range(lowest_y, highest_y + 1):
            if (x - one[0]) * (two[1] - one[1]) == (y - one[1]) * (two[0] - one[0]):
                count += 1
    return count


class Turned(unittest.TestCase):
    def test_arguments(self):
        self.assertEqual(list(inspect.signature(turned).parameters), ["one", "two", "three"])
        self.assertEqual(turned(three=(0, 1), two=(1, 0), one=(0, 0)), 1)

    def test_left(self):
        self.assertEqual(turned((0, 0), (1, 0), (0, 1)), 1)
        self.assertEqual(turned((0, 0), (4, 0), (4, 3)), 12)
        self.assertEqual(turned((-3, -2), (5, 1), (-1, 7)), 66)
        self.assertEqual(turned((1, 2), (4, 3), (6, 9)), 16)
        self.assertEqual(turned((0, 0), (0, -5), (2, -5)), 10)

    def test_right(self):
        self.assertEqual(turned((0, 0), (0, 1), (1, 0)), -1)
        self.assertEqual(turned((0, 0), (4, 3), (4, 0)), -12)
        self.assertEqual(turned((-1, 7), (5, 1), (-3, -2)), -66)
        self.assertEqual(turned((6, 9), (4, 3), (1, 2)), -16)
        self.assertEqual(turned((2, -5), (0, -5), (0, 0)), -10)

    def test_straight(self):
        for line in (
            [(0, 0), (1, 1), (2, 2)],
            [(0, 0), (2, 2), (1, 1)],
            [(1, 1), (0, 0), (2, 2)],
            [(-3, 5), (-3, -7), (-3, 0)],
            [(-3, 5), (8, 5), (0, 5)],
            [(-4, 6), (0, 0), (2, -3)],
        ):
            with self.subTest(line=line):
                self.assertEqual(turned(*line), 0)

    def test_one_spot(self):
        for spot in ((0, 0), (3, -8), (-GREAT, GREAT)):
            self.assertEqual(turned(spot, spot, spot), 0)

    def test_two_at_one_spot(self):
        self.assertEqual(turned((1, 2), (1, 2), (5, -3)), 0)
        self.assertEqual(turned((1, 2), (5, -3), (1, 2)), 0)
        self.assertEqual(turned((5, -3), (1, 2), (1, 2)), 0)

    def test_every_three_of_a_small_grid(self):
        for corners in itertools.product(FEW, repeat=3):
            self.assertEqual(turned(*corners), area_by_rim(corners), corners)

    def test_many_sizes(self):
        chance = random.Random(11)
        for figures in (1, 2, 9, 17, 40, 99, 100):
            bound = 10 ** figures - 1
            for turn in range(200):
                corners = [some_point(chance, bound) for corner in range(3)]
                answer = turned(*corners)
                self.assertEqual(answer, area_by_rim(corners), corners)
                self.assertEqual(turned(corners[1], corners[2], corners[0]), answer)
                self.assertEqual(turned(corners[1], corners[0], corners[2]), -answer)
                self.assertIs(type(answer), int)

    def test_hundred_figures(self):
        square = 4 * GREAT * GREAT
        self.assertEqual(turned((-GREAT, -GREAT), (GREAT, -GREAT), (GREAT, GREAT)), square)
        self.assertEqual(turned((GREAT, GREAT), (GREAT, -GREAT), (-GREAT, -GREAT)), -square)

    def test_a_hair_beside_a_long_line(self):
        self.assertEqual(turned((0, 0), (GREAT, GREAT - 1), (GREAT - 1, GREAT - 2)), -1)
        self.assertEqual(turned((0, 0), (GREAT - 1, GREAT - 2), (GREAT, GREAT - 1)), 1)
        self.assertEqual(turned((0, 0), (-GREAT, 1 - GREAT), (1 - GREAT, 2 - GREAT)), -1)
        self.assertEqual(turned((-GREAT, -GREAT), (0, 0), (GREAT, GREAT)), 0)
        self.assertEqual(turned((-GREAT, GREAT), (0, 0), (GREAT, -GREAT)), 0)

    def test_beyond_the_bound_nothing_is_refused(self):
        self.assertEqual(turned((0, 0), (BEYOND, 0), (0, BEYOND)), BEYOND * BEYOND)


class Gaps(unittest.TestCase):
    def test_arguments(self):
        self.assertEqual(list(inspect.signature(gaps).parameters), ["one", "two"])
        self.assertEqual(gaps(two=(4, 2), one=(0, 0)), 2)

    def test_same_point(self):
        for spot in ((0, 0), (5, 5), (-4, 9), (GREAT, -GREAT)):
            self.assertEqual(gaps(spot, (spot[0], spot[1])), 0)

    def test_upright_and_level(self):
        self.assertEqual(gaps((3, -2), (3, 5)), 7)
        self.assertEqual(gaps((3, 5), (3, -2)), 7)
        self.assertEqual(gaps((-4, 1), (6, 1)), 10)
        self.assertEqual(gaps((6, 1), (-4, 1)), 10)
        self.assertEqual(gaps((0, 0), (1, 0)), 1)
        self.assertEqual(gaps((0, 0), (0, -1)), 1)

    def test_slanted_with_spots_between(self):
        for right in (1, -1):
            for up in (1, -1):
                self.assertEqual(gaps((2, 3), (2 + 6 * right, 3 + 4 * up)), 2)
                self.assertEqual(gaps((2, 3), (2 + 5 * right, 3 + 5 * up)), 5)
                self.assertEqual(gaps((2, 3), (2 + 12 * right, 3 + 18 * up)), 6)

    def test_slanted_with_none_between(self):
        for right in (1, -1):
            for up in (1, -1):
                self.assertEqual(gaps((2, 3), (2 + 7 * right, 3 + 4 * up)), 1)
                self.assertEqual(gaps((2, 3), (2 + 1 * right, 3 + 9 * up)), 1)
                self.assertEqual(gaps((2, 3), (2 + 1 * right, 3 + 1 * up)), 1)

    def test_held_against_a_count_of_spots(self):
        for one in ((0, 0), (-5, 3), (7, -11)):
            for wide in range(-13, 14):
                for high in range(-13, 14):
                    two = (one[0] + wide, one[1] + high)
                    answer = gaps(one, two)
                    self.assertEqual(answer, spots_on_line(one, two) - 1, (one, two))
                    self.assertEqual(answer, gaps(two, one), (one, two))
                    self.assertIs(type(answer), int)

    def test_longer_lines_held_against_a_count_of_spots(self):
        chance = random.Random(12)
        for line in range(60):
            one, two = some_point(chance, 40), some_point(chance, 40)
            self.assertEqual(gaps(one, two), spots_on_line(one, two) - 1, (one, two))

    def test_very_great_lines_made_of_equal_steps(self):
        # A step whose width and height share no divisor, taken so many times.
        for wide, high in ((1, 0), (0, 1), (3, 7), (7, 3), (1, 1), (8, 9), (5, 1)):
            for right in (1, -1):
                for up in (1, -1):
                    for times in (10 ** 98, 10 ** 98 + 1, GREAT // 10):
                        start = (-4 * 10 ** 98, 5 * 10 ** 98)
                        end = (start[0] + times * wide * right, start[1] + times * high * up)
                        self.assertEqual(gaps(start, end), times)
                        self.assertEqual(gaps(end, start), times)

    def test_from_one_end_of_the_grid_to_the_other(self):
        self.assertEqual(gaps((-GREAT, 0), (GREAT, 0)), 2 * GREAT)
        self.assertEqual(gaps((0, GREAT), (0, -GREAT)), 2 * GREAT)
        self.assertEqual(gaps((-GREAT, -GREAT), (GREAT, GREAT)), 2 * GREAT)
        self.assertEqual(gaps((-GREAT, GREAT), (GREAT, -GREAT)), 2 * GREAT)
        self.assertEqual(gaps((0, 0), (GREAT, GREAT - 1)), 1)
        self.assertEqual(gaps((0, 0), (1 - GREAT, GREAT)), 1)

    def test_great_neighbours_in_the_longest_row_of_divisions(self):
        less, more = 1, 1
        while less + more <= GREAT:
            less, more = more, less + more
        self.assertEqual(gaps((0, 0), (less, more)), 1)
        self.assertEqual(gaps((more, 0), (0, -less)), 1)

    def test_beyond_the_bound_nothing_is_refused(self):
        self.assertEqual(gaps((0, 0), (6 * BEYOND, -4 * BEYOND)), 2 * BEYOND)


class Apart(unittest.TestCase):
    def test_the_square_of_how_far(self):
        self.assertEqual(apart((0, 0), (3, 4)), 25)
        self.assertEqual(apart((3, 4), (0, 0)), 25)
        self.assertEqual(apart((-2, 5), (-2, 5)), 0)
        self.assertEqual(apart((-1, -1), (1, 1)), 8)
        self.assertEqual(apart((-GREAT, GREAT), (GREAT, -GREAT)), 8 * GREAT * GREAT)
        self.assertEqual(apart((GREAT, 0), (0, 1)), GREAT * GREAT + 1)


class Signs(unittest.TestCase):
    def test_the_sign_tells_the_side_of_a_level_way(self):
        for way in (1, 9, GREAT):
            for high in (-GREAT, -1, 0, 1, GREAT):
                self.assertEqual(sign(turned((-way, 0), (way, 0), (5, high))), sign(high))
                self.assertEqual(sign(turned((way, 0), (-way, 0), (5, high))), -sign(high))


if __name__ == "__main__":
    unittest.main()
