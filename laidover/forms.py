"""Forms: what stays of a heap however it is moved, or made greater or less.

The functions that the document lists refuse what is no heap. The others
trust what they are handed.
"""

from laidover.heaps import farthest_pairs, greatest_gap, need_heaps
from laidover.numbers import share
from laidover.points import difference, flipped, in_order, quotient, rows_in_order


def shape(points):
    """The row of points that is the same for all similar heaps."""
    need_heaps(points)
    return first_row(points)


def form(points):
    """The pair of the greatest gap and the shape, the same for all heaps alike."""
    need_heaps(points)
    return (greatest_gap(points), first_row(points))


def similar(one, other):
    """Whether one heap, moved and made greater or less, is the other one."""
    need_heaps(one, other)
    return first_row(one) == first_row(other)


def scale(one, other):
    """The square of what lengths of one are multiplied by to be the other's."""
    if not similar(one, other):
        return None
    here, there = greatest_gap(one), greatest_gap(other)
    return share(there[0] * here[1], there[1] * here[0])


def first_row(points):
    """The shape, unchecked."""
    rows = []
    for a, b in farthest_pairs(points):
        rows.extend(rows_between(a, b, points))
        rows.extend(rows_between(b, a, points))
    return tuple(rows_in_order(rows)[0])


def rows_between(a, b, points):
    """The row of points where a is 0 and b is 1, and it with a flip."""
    length = difference(b, a)
    row = [quotient(difference(p, a), length) for p in points]
    return [in_order(row), in_order([flipped(p) for p in row])]
