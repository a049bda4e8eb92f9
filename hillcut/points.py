"""Turns, lengths and spots of the grid between points."""


def turned(one, two, three):
    return (two[0] - one[0]) * (three[1] - one[1]) - (two[1] - one[1]) * (three[0] - one[0])


# The square alone is a whole number, and it orders pairs of points as the length itself would.
def apart(one, two):
    wide = one[0] - two[0]
    high = one[1] - two[1]
    return wide * wide + high * high


# The spots on a straight line lie at equal steps, and the line can be cut into whole steps
# of equal size just as often as the greatest divisor of both its width and its height says.
def gaps(one, two):
    return greatest_divisor(abs(one[0] - two[0]), abs(one[1] - two[1]))


# A walk over all divisors would never end for numbers of a hundred figures; Euclid's way
# takes some hundred rounds. Nought and nought give nought, as one point alone asks.
def greatest_divisor(great, small):
    while small > 0:
        rest = great % small
        great = small
        small = rest
    return great
