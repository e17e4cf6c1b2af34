"""The corners of the figure that holds the pairs of means of all rings, by the weights of two webs.

A point is a tuple (sum, other sum, length) of the round of a ring: its means are the sums, divided by the length.
"""

from math import lcm

from parlourday.cycles import greatest_ring
from parlourday.plain import lowest_terms
from parlourday.webs import follow


def ring_corners(web, beside):
    """The list of the corners, against the clock, the one with the least first, then second mean at first.

    Both webs have the same moves, with other weights. A corner is a tuple of two fractions.
    """
    ends = [farthest(web, beside, way) for way in [(-1, 0), (0, -1), (1, 0), (0, 1)]]
    found = []
    for place in range(4):
        found = found + side(web, beside, ends[place], ends[(place + 1) % 4])
    # With one length for all of them the means compare as integers do.
    shared = 1
    for _, _, length in found:
        shared = lcm(shared, length)
    scaled = sorted(set([(first * shared // length, second * shared // length) for first, second, length in found]))
    return [(lowest_terms((first, shared)), lowest_terms((second, shared))) for first, second in hull(scaled)]


def farthest(web, beside, way):
    """A point that is as far as can be on a way (first, second)."""
    weights = [
        [
            (way[0] * weight + way[1] * twin, target)
            for (weight, target), (twin, _) in zip(moves, others)
        ]
        for moves, others in zip(web, beside)
    ]
    ahead, again = greatest_ring(weights)
    node, _, _ = follow(web, 0, ahead)
    _, first, _ = follow(web, node, again)
    _, second, _ = follow(beside, node, again)
    return (first, second, len(again))


def outward(point, other):
    """The way that leads off the figure at the side from a point to the next one against the clock."""
    across = other[0] * point[2] - point[0] * other[2]
    up = other[1] * point[2] - point[1] * other[2]
    return (up, -across)


def is_beyond(point, other, way):
    """Whether a point is farther on a way than another one."""
    far = way[0] * point[0] + way[1] * point[1]
    near = way[0] * other[0] + way[1] * other[1]
    return far * other[2] > near * point[2]


def side(web, beside, point, end):
    """The list of points on the edge of the figure from a point up to an end, without the end.

    Between two neighbours there is nothing beyond the straight line any more.
    """
    found = [point]
    waiting = [end]
    while waiting:
        way = outward(found[-1], waiting[-1])
        further = farthest(web, beside, way)
        if is_beyond(further, found[-1], way):
            waiting.append(further)
        else:
            found.append(waiting.pop())
    return found[:-1]


def turn(point, middle, end):
    """Above 0 if the way from a point by a middle one to an end turns against the clock, 0 if it is straight."""
    ahead = (middle[0] - point[0]) * (end[1] - point[1])
    return ahead - (middle[1] - point[1]) * (end[0] - point[0])


def hull(points):
    """The corners of ascending points, against the clock from the first one on."""
    if len(points) < 3:
        return list(points)
    return half_hull(points) + half_hull(points[::-1])


def half_hull(points):
    """The corners from the first to the last one of points, the last one left out."""
    found = []
    for point in points:
        while len(found) > 1 and turn(found[-2], found[-1], point) <= 0:
            found.pop()
        found.append(point)
    return found[:-1]
