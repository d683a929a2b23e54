"""Heaps laid over one another wholly, and the symmetries of a heap.

The functions that the document lists refuse what is no heap. The others
trust what they are handed.
"""

from laidover.heaps import farthest_pairs, need_heaps, pairs_by_gap
from laidover.motions import axis, center, kind_of, leading_to_pairs, place_behind
from laidover.points import gap_between, in_order


def laying(one, other):
    """All motions that lead one heap just to the other one, rising."""
    need_heaps(one, other)
    return ways_over(one, other)


def alike(one, other):
    """Whether a motion leads one heap just to the other one."""
    need_heaps(one, other)
    return ways_over(one, other) != []


def symmetries(points):
    """All motions that lead a heap to itself, rising."""
    need_heaps(points)
    return ways_over(points, points)


def turns_of(points):
    """How many symmetries have no flip."""
    return len([way for way in symmetries(points) if way[2] == 0])


def mirrors_of(points):
    """The axes of the symmetries with a flip, rising."""
    return sorted([axis(way) for way in symmetries(points) if way[2] == 1])


def is_handed(points):
    """Whether no symmetry has a flip."""
    return mirrors_of(points) == []


def heart(points):
    """The center of the turns among the symmetries; None without any."""
    # All turns of a heap have one center, so any of them tells it.
    for way in symmetries(points):
        if kind_of(way) == "turn":
            return center(way)
    return None


def orbits(points):
    """The points to which symmetries lead one another, together, in order."""
    ways = symmetries(points)
    ordered = in_order(points)
    found = []
    for p in ordered:
        places = [place_behind(way, p) for way in ways]
        orbit = tuple([q for q in ordered if q in places])
        # Each orbit is met once for each of its points, and taken at its first.
        if orbit[0] == p:
            found.append(orbit)
    return found


def ways_over(one, other):
    """All motions that lead one heap just to the other one, unchecked."""
    if len(one) != len(other):
        return []
    return ways_into(one, other)


def ways_into(one, other):
    """All motions that lead one heap to points of the other one, rising."""
    # Between heaps as great few motions are tried so: as many pairs at most as
    # there are points are farthest apart, but any other gap may be far more often.
    a, b = farthest_pairs(one)[0]
    pairs = pairs_by_gap(other).get(gap_between(a, b), [])
    tried = leading_to_pairs(a, b, pairs)
    return sorted([way for way in tried if is_led_into(way, one, other)])


def is_led_into(motion, one, other):
    """Whether a motion leads all points of one heap to points of the other."""
    return all(place_behind(motion, p) in other for p in one)
