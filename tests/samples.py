"""Hills, lists that are no hills, and other ways to know what the program should answer."""

import copy
import itertools
from fractions import Fraction

GREAT = 10 ** 100 - 1
BEYOND = 10 ** 120 + 7


def cross(one, two, three):
    # Twice the area by the products round the rim, another form than the document's turn.
    corners = (one, two, three)
    return sum(
        corners[place - 1][0] * corners[place][1] - corners[place][0] * corners[place - 1][1]
        for place in range(3)
    )


def line_height(one, two, x):
    """How high the straight line through two points that aren't above one another is at x."""
    return one[1] + Fraction((two[1] - one[1]) * (x - one[0]), two[0] - one[0])


def back_height(points, x):
    """How high the back of a hill is at x, or None beyond its ends."""
    for one, two in zip(points, points[1:]):
        if one[0] <= x <= two[0]:
            return line_height(one, two, x)
    return None


def lies_by_height(points, spot):
    height = back_height(points, spot[0])
    if height is None or spot[1] < 0 or spot[1] > height:
        return "out"
    if spot[1] == 0 or spot[1] == height:
        return "on"
    return "in"


def area_by_rim(points):
    # Round the rim to the right, so the products sum to less than nought.
    return -sum(
        points[place - 1][0] * points[place][1] - points[place][0] * points[place - 1][1]
        for place in range(len(points))
    )


def box(points, more=1):
    """Every spot of the box round some points, and of a rim of some breadth round that box."""
    xs = [point[0] for point in points]
    ys = [point[1] for point in points]
    return [
        (x, y)
        for x in range(min(xs) - more, max(xs) + more + 1)
        for y in range(min(ys) - more, max(ys) + more + 1)
    ]


def every_small_hill():
    for many in (1, 2, 3):
        for heights in itertools.product((1, 2, 3, 4), repeat=many):
            for steps in itertools.product((1, 2), repeat=many + 1):
                yield built(-2, steps, heights)


def built(first, steps, heights):
    xs = list(itertools.accumulate(steps, initial=first))
    return list(zip(xs, (0,) + tuple(heights) + (0,)))


def some_hill(chance, many, wide, high):
    steps = [chance.randint(1, wide) for place in range(many - 1)]
    heights = [chance.randint(1, high) for place in range(many - 2)]
    return built(chance.randint(-wide, wide), steps, heights)


def shaped_hills():
    """Hills with straight lines, dents, level tops and the like."""
    return [
        [(0, 0), (1, 1), (2, 0)],
        [(-5, 0), (-4, 9), (5, 0)],
        [(0, 0), (1, 1), (2, 2), (3, 3), (4, 0)],
        [(0, 0), (3, 3), (4, 2), (5, 1), (6, 0)],
        [(0, 0), (1, 1), (2, 2), (3, 3), (4, 2), (5, 1), (6, 0)],
        [(0, 0), (1, 2), (2, 2), (3, 2), (4, 2), (5, 0)],
        [(0, 0), (2, 2), (4, 4), (6, 2), (8, 4), (10, 2), (12, 0)],
        [(0, 0), (1, 5), (2, 4), (3, 3), (4, 4), (5, 5), (6, 0)],
        [(0, 0), (1, 4), (3, 3), (5, 2), (7, 3), (9, 4), (10, 0)],
        [(0, 0), (1, 9), (2, 6), (3, 4), (4, 3), (5, 3), (6, 4), (7, 6), (8, 9), (9, 0)],
        [(0, 0), (1, 1), (2, 3), (3, 6), (4, 10), (5, 15), (6, 0)],
        [(0, 0), (1, 15), (2, 10), (3, 6), (4, 3), (5, 1), (6, 0)],
        [(0, 0), (1, 4), (2, 7), (3, 9), (4, 10), (5, 10), (6, 9), (7, 7), (8, 4), (9, 0)],
        [(0, 0), (1, 1), (2, 1), (3, 1), (4, 1), (5, 1), (6, 1), (7, 0)],
        [(0, 0), (1, 3), (2, 1), (3, 3), (4, 1), (5, 3), (6, 1), (7, 3), (8, 0)],
        [(0, 0), (1, 1), (2, 4), (3, 1), (4, 0)],
        [(-9, 0), (-6, 2), (-3, 4), (-1, 1), (1, 7), (2, 4), (3, 1), (7, 0)],
        [(0, 0), (1, 5), (2, 1), (3, 1), (4, 1), (5, 5), (6, 0)],
    ]


def great_hills():
    """Hills of very great numbers, some of them with steps that are only just not straight."""
    return [
        [(-GREAT, 0), (0, GREAT), (GREAT, 0)],
        [(-GREAT, 0), (-GREAT + 1, GREAT), (GREAT, 0)],
        [(-GREAT, 0), (0, 1), (GREAT, 0)],
        [(0, 0), (GREAT // 2, GREAT // 2), (GREAT // 2 + 1, GREAT // 2 + 1), (GREAT, 0)],
        [(0, 0), (GREAT // 2, GREAT // 2), (GREAT - 1, GREAT - 2), (GREAT, 0)],
        [(0, 0), (GREAT // 2, GREAT // 2), (GREAT - 1, GREAT), (GREAT, 0)],
        [(0, 0), (10 ** 99, 3 * 10 ** 99), (2 * 10 ** 99, 6 * 10 ** 99), (3 * 10 ** 99, 9 * 10 ** 99), (GREAT, 0)],
        [(-GREAT, 0), (-5, GREAT - 1), (0, GREAT), (6, GREAT - 1), (GREAT, 0)],
        [(-GREAT, 0), (-5, GREAT), (0, 1), (6, GREAT), (GREAT, 0)],
        [(1 - BEYOND, 0), (-BEYOND // 2, BEYOND), (7, BEYOND - 1), (BEYOND, 0)],
    ]


def long_hills(chance):
    """Hills of two hundred and ten points and of some more."""
    hills = [some_hill(chance, many, wide, high) for many in (210, 230) for wide, high in ((2, 5), (9, 1000))]
    hills.append(some_hill(chance, 210, 10 ** 97, GREAT))
    hills.append(built(0, [1] * 209, [1] * 208))
    hills.append(built(0, [1] * 209, range(1, 209)))
    hills.append(built(0, [1] * 209, range(208, 0, -1)))
    hills.append(built(0, [1] * 209, [place * place + 1 for place in range(-104, 104)]))
    hills.append(built(0, [1] * 209, [(place + 1) * (208 - place) for place in range(208)]))
    hills.append(built(0, [1] * 209, [1 + place % 2 for place in range(208)]))
    return hills


def random_hills(chance):
    hills = []
    for many in (3, 4, 5, 6, 8, 13):
        for wide, high in ((1, 2), (2, 3), (3, 9), (10 ** 6, 10 ** 6), (10 ** 98, 10 ** 99)):
            hills += [some_hill(chance, many, wide, high) for turn in range(6)]
    return hills


NO_HILLS = (
    # fewer than three points
    [],
    [(0, 0)],
    [(0, 1)],
    [(0, 0), (1, 0)],
    [(0, 0), (1, 1)],
    [(0, 0), (0, 0)],
    # a first or a last height that is not nought
    [(0, 1), (1, 1), (2, 0)],
    [(0, -1), (1, 1), (2, 0)],
    [(0, 0), (1, 1), (2, 1)],
    [(0, 0), (1, 1), (2, -1)],
    [(0, 1), (1, 2), (2, 1)],
    [(0, 1), (1, 2), (2, 3), (3, 1)],
    [(0, -GREAT), (1, 2), (2, 0)],
    [(0, 0), (1, 2), (2, GREAT)],
    # an inner height of nought or below
    [(0, 0), (1, 0), (2, 0)],
    [(0, 0), (1, -1), (2, 0)],
    [(0, 0), (1, 0), (2, 3), (3, 0)],
    [(0, 0), (1, 3), (2, 0), (3, 0)],
    [(0, 0), (1, 3), (2, 0), (3, 3), (4, 0)],
    [(0, 0), (1, 3), (2, -1), (3, 3), (4, 0)],
    [(0, 0), (1, -3), (2, -1), (3, -3), (4, 0)],
    [(0, 0), (1, GREAT), (2, -GREAT), (3, 0)],
    # points that do not go to the right
    [(2, 0), (1, 1), (0, 0)],
    [(0, 0), (0, 1), (2, 0)],
    [(0, 0), (2, 1), (2, 0)],
    [(0, 0), (1, 1), (1, 2), (2, 0)],
    [(0, 0), (2, 1), (1, 2), (3, 0)],
    [(0, 0), (-1, 1), (2, 0)],
    [(0, 0), (3, 1), (2, 0)],
    [(0, 0), (5, 5), (0, 0)],
    [(0, 0), (1, 1), (2, 2), (-1, 0)],
    [(GREAT, 0), (0, 1), (-GREAT, 0)],
    # a point twice
    [(0, 0), (0, 0), (1, 1), (2, 0)],
    [(0, 0), (1, 1), (1, 1), (2, 0)],
    [(0, 0), (1, 1), (2, 0), (2, 0)],
    [(0, 0), (1, 1), (2, 2), (1, 1), (3, 0)],
    [(0, 0), (0, 0), (0, 0)],
)


def spoilt_hills():
    """One fault at a time, at each place of a long hill."""
    sound = built(-3, [2] * 11, [4, 1, 3, 3, 2, 1, 5, 6, 7, 2])
    for place in range(len(sound)):
        x, y = sound[place]
        inner = 0 < place < len(sound) - 1
        for height in (0, -1, -GREAT) if inner else (1, -1, GREAT):
            yield sound[:place] + [(x, height)] + sound[place + 1:]
        if place > 0:
            for left in (sound[place - 1][0], sound[place - 1][0] - 1, -GREAT):
                yield sound[:place] + [(left, y)] + sound[place + 1:]
        yield sound[:place] + [(x, y)] + sound[place:]


def no_hills():
    return [list(points) for points in NO_HILLS] + list(spoilt_hills())


STRANGE_SPOTS = ((0, 0), (1, 1), (-1, -1), (GREAT, -GREAT), (-GREAT, GREAT))
STRANGE_PLACES = ((0, 0), (0, 1), (2, 0), (-1, 0), (0, -1), (5, 5), (GREAT, -GREAT), (-1, GREAT))


def unchanged(test, function, *arguments):
    """Calls the function and sees to it that nothing handed in is another afterwards."""
    ahead = copy.deepcopy(arguments)
    try:
        return function(*arguments)
    finally:
        test.assertEqual(arguments, ahead)
