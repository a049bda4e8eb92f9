"""Rings round points: their corners, their width, their fan, and where a spot lies."""

from hillcut.errors import NoRing
from hillcut.points import apart, turned


# Tuples are ordered by x and then by y, just as the least and the greatest point are told.
def hull(points):
    spots = sorted(set(points))
    if len(spots) < 2:
        return spots
    there = left_way(spots)
    back = left_way(list(reversed(spots)))
    return there[:-1] + back[:-1]


# What is straight is taken out too, as a point on a side is no corner. So where all spots lie
# on one line, the way there and the way back have only their two ends left.
def left_way(spots):
    way = []
    for spot in spots:
        while len(way) > 1 and turned(way[-2], way[-1], spot) <= 0:
            way.pop()
        way.append(spot)
    return way


# All pairs are looked at: a list holds so few points that nothing cleverer is worth its risk.
def farthest(points):
    if len(points) == 0:
        return None
    best = 0
    for other in range(1, len(points)):
        for one in range(other):
            best = max(best, apart(points[one], points[other]))
    return best


def fan(corners):
    check_ring(corners)
    return [(0, place, place + 1) for place in range(1, len(corners) - 1)]


# Beyond the end of a side a spot may lie on its line and be out all the same, so the least
# turn of all is what counts. The place ahead of the first corner is that of the last one.
def lies_in(corners, spot):
    check_ring(corners)
    least = min([turned(corners[place - 1], corners[place], spot) for place in range(len(corners))])
    if least < 0:
        return "out"
    if least == 0:
        return "on"
    return "in"


def check_ring(corners):
    if len(corners) < 3 or hull(corners) != corners:
        raise NoRing("these corners are no ring")
