"""Heaps: lists or tuples of 2 to 14 unlike points.

The functions that the document lists refuse what is no heap or no motion.
The others trust what they are handed.
"""

from laidover.errors import BadHeap
from laidover.motions import need_motions, place_behind
from laidover.numbers import rising
from laidover.points import gap_between, in_order, is_point, middle

FEWEST_POINTS = 2
MOST_POINTS = 14


def is_heap(thing):
    """Whether a thing of any kind is a heap."""
    if not isinstance(thing, (list, tuple)):
        return False
    if len(thing) < FEWEST_POINTS or len(thing) > MOST_POINTS:
        return False
    if not all([is_point(p) for p in thing]):
        return False
    return len(set(thing)) == len(thing)


def heap(points):
    """The heap as a tuple, in order."""
    need_heaps(points)
    return tuple(in_order(points))


def moved(motion, points):
    """The heap behind a motion, as a tuple in order."""
    need_motions(motion)
    need_heaps(points)
    return tuple(in_order([place_behind(motion, p) for p in points]))


def mean(points):
    """The point in the middle of a heap."""
    need_heaps(points)
    return middle(points)


def gaps(points):
    """From each square of how far two points are apart to how often it is."""
    need_heaps(points)
    return gap_counts(points)


def same_gaps(one, other):
    """Whether two heaps have the same gaps, each as often."""
    need_heaps(one, other)
    return gap_counts(one) == gap_counts(other)


def widest(points):
    """The greatest gap, a share."""
    need_heaps(points)
    return greatest_gap(points)


def need_heaps(*things):
    """Refuse things of which one is no heap."""
    for thing in things:
        if not is_heap(thing):
            raise BadHeap("this is no heap")


def pairs_by_gap(points):
    """From each gap, the least one first, to the pairs of points so far apart."""
    found = {}
    for at, p in enumerate(points):
        for q in points[at + 1:]:
            found.setdefault(gap_between(p, q), []).append((p, q))
    return {gap: found[gap] for gap in rising(list(found))}


def gap_counts(points):
    """From each gap to how often it is, unchecked."""
    pairs = pairs_by_gap(points)
    return {gap: len(pairs[gap]) for gap in pairs}


def greatest_gap(points):
    """The greatest gap, unchecked."""
    return list(pairs_by_gap(points))[-1]


def farthest_pairs(points):
    """The pairs of points that are farthest apart, each one way round."""
    pairs = pairs_by_gap(points)
    return pairs[list(pairs)[-1]]
