"""Copies: where a pattern stands in a heap.

The functions that the document lists refuse what is no heap. The others
trust what they are handed.
"""

from laidover.heaps import need_heaps, pairs_by_gap
from laidover.motions import place_behind
from laidover.numbers import is_share
from laidover.points import in_order, rows_in_order
from laidover.whole import ways_into


def placings(pattern, points):
    """All motions that lead all of a pattern to points of a heap, rising."""
    need_heaps(pattern, points)
    return ways_into(pattern, points)


def copies(pattern, points):
    """The parts of a heap that a pattern covers, each once, in order."""
    need_heaps(pattern, points)
    return covered_parts(pattern, points)


def apart_copies(pattern, points):
    """The copies, taken one by one, that share no point with one taken."""
    need_heaps(pattern, points)
    taken = []
    for part in covered_parts(pattern, points):
        if not any([p in other for other in taken for p in part]):
            taken.append(part)
    return taken


def holds(points, pattern):
    """Whether a heap has a copy of a pattern."""
    need_heaps(points, pattern)
    return ways_into(pattern, points) != []


def covering(pattern, points):
    """The points of a heap that are in no copy of a pattern, in order."""
    need_heaps(pattern, points)
    covered = [p for part in covered_parts(pattern, points) for p in part]
    return [p for p in in_order(points) if p not in covered]


def pairs_at(points, square):
    """All pairs of points so far apart, the first one ahead, in order."""
    need_heaps(points)
    # (True, 1) is no share, though Python finds it under (1, 1).
    if not is_share(square):
        return []
    return pairs_by_gap(in_order(points)).get(square, [])


def covered_parts(pattern, points):
    """The copies, unchecked."""
    # The symmetries of the pattern lead to the same part again.
    found = {}
    for motion in ways_into(pattern, points):
        part = in_order([place_behind(motion, p) for p in pattern])
        found[tuple(part)] = True
    return rows_in_order(list(found))
