"""The two points of a list that are nearest to one another."""

from hillcut.points import apart


# All pairs are looked at: a list holds so few points that nothing cleverer is worth its risk.
def nearest(points):
    best = None
    for other in range(1, len(points)):
        for one in range(other):
            far = apart(points[one], points[other])
            if best is None or far < best[2]:
                best = (one, other, far)
    return best
