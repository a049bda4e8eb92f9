"""Cuts of hills into triangles, and the triangle in which a spot lies."""

from hillcut.hills import check_hill
from hillcut.points import turned


# The places that are kept make a way that never turns to the right; where the next point would
# make it do so, a triangle is cut off the hill from above, and what is left is a hill again.
# Such a way rises from the ground, and the last point is on the ground: it cuts off all the rest.
def cut(points):
    check_hill(points)
    triangles = []
    kept = []
    for right in range(len(points)):
        while len(kept) > 1 and turned(points[kept[-2]], points[kept[-1]], points[right]) < 0:
            triangles.append((kept[-2], kept[-1], right))
            kept.pop()
        kept.append(right)
    return triangles


def locate(points, spot):
    triangles = cut(points)
    for place in range(len(triangles)):
        if covers(points, triangles[place], spot):
            return place
    return None


# The middle is above the foot, so the way over the middle goes round the triangle to the right.
def covers(points, triangle, spot):
    left = points[triangle[0]]
    middle = points[triangle[1]]
    right = points[triangle[2]]
    if turned(left, middle, spot) > 0 or turned(middle, right, spot) > 0:
        return False
    return turned(left, right, spot) >= 0
