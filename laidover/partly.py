"""Heaps laid over one another in part.

The functions that the document lists refuse what does not fit. The others
trust what they are handed.
"""

from laidover.errors import BadNumber
from laidover.heaps import MOST_POINTS, need_heaps, pairs_by_gap
from laidover.motions import leading_to_pairs, need_motions, place_behind, shifting
from laidover.numbers import is_whole
from laidover.points import difference, in_order, product

QUARTER_TURNS = ((1, 0, 1), (0, 1, 1), (-1, 0, 1), (0, -1, 1))


def laid(motion, one, other):
    """The points of one that a motion leads to points of the other, in order."""
    need_motions(motion)
    need_heaps(one, other)
    return laid_points(motion, one, other)


def strays(motion, one, other):
    """The points of one that are not laid, and those of the other not laid on."""
    need_motions(motion)
    need_heaps(one, other)
    places = [place_behind(motion, p) for p in one]
    lost = [p for p in in_order(one) if place_behind(motion, p) not in other]
    return (lost, [q for q in in_order(other) if q not in places])


def at_least(one, other, *, many):
    """All motions that lay at least so many points, rising."""
    need_heaps(one, other)
    if not is_whole(many) or many < 2 or many > MOST_POINTS:
        raise BadNumber("a whole number from 2 to 14 is asked for")
    laid_pairs = laid_pair_counts(one, other)
    # So many points make this many pairs, and a motion that lays them lays these.
    fewest = many * (many - 1) // 2
    return sorted([motion for motion in laid_pairs if laid_pairs[motion] >= fewest])


def best_over(one, other, *, flips=True):
    """The greatest number that a motion lays, and the least such motion."""
    need_heaps(one, other)
    if not isinstance(flips, bool):
        raise BadNumber("flips are True or False")
    motion = best_motion(one, other, flips)
    return (len(laid_points(motion, one, other)), motion)


def common_part(one, other):
    """The points that the best motion lays, and where each one is laid."""
    need_heaps(one, other)
    motion = best_motion(one, other, True)
    part = laid_points(motion, one, other)
    return (part, [place_behind(motion, p) for p in part])


def shifts(one, other):
    """From each shift that lays any point, in order, to how many it lays."""
    need_heaps(one, other)
    return shift_counts(one, other)


def best_shift(one, other):
    """The greatest number that a shift lays, and the first such shift."""
    need_heaps(one, other)
    counts = shift_counts(one, other)
    most = max(counts.values())
    return (most, [shift for shift in counts if counts[shift] == most][0])


def quarter_turns(one, other):
    """The greatest number of a shift behind each of the four quarter turns."""
    need_heaps(one, other)
    return [most_shifted(turn, one, other) for turn in QUARTER_TURNS]


def laid_points(motion, one, other):
    """The points of one that a motion leads to points of the other, unchecked."""
    return [p for p in in_order(one) if place_behind(motion, p) in other]


def laid_pair_counts(one, other):
    """From each motion that lays two points or more to how many pairs it lays."""
    here, there = pairs_by_gap(one), pairs_by_gap(other)
    found = {}
    for gap in here:
        for a, b in here[gap]:
            # A motion comes up once for each pair that it lays.
            for motion in leading_to_pairs(a, b, there.get(gap, [])):
                found[motion] = found.get(motion, 0) + 1
    return found


def best_motion(one, other, flips):
    """The least of the motions that lay most points."""
    laid_pairs = laid_pair_counts(one, other)
    if not laid_pairs:
        return shifting(in_order(one)[0], in_order(other)[0])
    tried = [motion for motion in laid_pairs if flips or motion[2] == 0]
    most = max([laid_pairs[motion] for motion in tried])
    return min([motion for motion in tried if laid_pairs[motion] == most])


def shift_counts(one, other):
    """From each shift that lays any point, in order, to how many, unchecked."""
    found = {}
    for p in one:
        for q in other:
            shift = difference(q, p)
            found[shift] = found.get(shift, 0) + 1
    return {shift: found[shift] for shift in in_order(list(found))}


def most_shifted(turn, one, other):
    """The greatest number that a shift behind this turn lays."""
    counts = shift_counts([product(turn, p) for p in one], other)
    return max(counts.values())
