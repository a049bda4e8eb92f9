"""How many points of the grid lie on the rim of a hill, and how many in it."""

from hillcut.hills import area, check_hill
from hillcut.points import gaps


# The gaps of a line count one of its two ends, so round the rim each point is counted once.
def rim_count(points):
    check_hill(points)
    total = gaps(points[-1], points[0])
    for place in range(1, len(points)):
        total = total + gaps(points[place - 1], points[place])
    return total


# Great hills hold far too many spots to count them one by one; the area tells their number.
def inside_count(points):
    return (area(points) - rim_count(points) + 2) // 2
