"""Hills: what is one, its area, where a spot lies, what its points see, and the rope over it."""

from hillcut.errors import NoHill, NoPlace
from hillcut.points import turned
from hillcut.rings import hull


def check_hill(points):
    if len(points) < 3 or points[0][1] != 0 or points[-1][1] != 0:
        raise NoHill("a hill has three points or more, the first and the last on the ground")
    for place in range(1, len(points)):
        if points[place][0] <= points[place - 1][0]:
            raise NoHill("each point of a hill is further to the right than the one ahead of it")
    for place in range(1, len(points) - 1):
        if points[place][1] < 1:
            raise NoHill("each point of a hill between the first and the last is above the ground")


# Between two neighbours the hill is as wide as their step and as high as both are on average;
# twice that is the sum of both heights, so nothing needs to be halved.
def area(points):
    check_hill(points)
    total = 0
    for place in range(1, len(points)):
        wide = points[place][0] - points[place - 1][0]
        total = total + wide * (points[place][1] + points[place - 1][1])
    return total


# All points between the first and the last are above the ground, so at the height of nought
# there is nothing but the ground from one end to the other.
def lies(points, spot):
    check_hill(points)
    if spot[0] < points[0][0] or spot[0] > points[-1][0] or spot[1] < 0:
        return "out"
    if spot[1] == 0:
        return "on"
    return lies_by_back(points, spot)


# The spot must be above the ground and not beyond the ends, so that some step is above or below it.
def lies_by_back(points, spot):
    place = 1
    while points[place][0] < spot[0]:
        place = place + 1
    turn = turned(points[place - 1], points[place], spot)
    if turn > 0:
        return "out"
    if turn == 0:
        return "on"
    return "in"


def sees(points, one, two):
    check_hill(points)
    check_place(points, one)
    check_place(points, two)
    left = min(one, two)
    right = max(one, two)
    for place in range(left + 1, right):
        if turned(points[left], points[right], points[place]) > 0:
            return False
    return True


def check_place(points, place):
    if place < 0 or place >= len(points):
        raise NoPlace("no point of the hill has this place")


# No point lies below the ground, so the ring round all points is the ground and the rope.
def rope(points):
    check_hill(points)
    corners = hull(points)
    return [place for place in range(len(points)) if points[place] in corners]
