"""Points, and reckoning with them as numbers x + y i.

The functions that the document lists refuse what is no point. The others
trust what they are handed: they are called with points that are checked.
"""

from laidover.errors import BadPoint
from laidover.numbers import common_divisor, common_multiple, is_whole, share


def point(x, y, w=1):
    """The point at x / w and y / w, in lowest terms."""
    for number in (x, y, w):
        if not is_whole(number):
            raise BadPoint("a point is made of whole numbers")
    if w == 0:
        raise BadPoint("the w of a point is not nought")
    return lowest(x, y, w)


def is_point(thing):
    """Whether a thing of any kind is a point."""
    if not isinstance(thing, tuple) or len(thing) != 3:
        return False
    if not all([is_whole(number) for number in thing]):
        return False
    x, y, w = thing
    return w > 0 and point_divisor(x, y, w) == 1


def is_ahead(p, q):
    """Whether q is farther right than p, or as far and higher."""
    need_points(p, q)
    if p[0] * q[2] != q[0] * p[2]:
        return p[0] * q[2] < q[0] * p[2]
    return p[1] * q[2] < q[1] * p[2]


def square_gap(p, q):
    """The square of how far two points are apart, a share."""
    need_points(p, q)
    return gap_between(p, q)


def need_points(*things):
    """Refuse things of which one is no point."""
    for thing in things:
        if not is_point(thing):
            raise BadPoint("this is no point")


def point_divisor(x, y, w):
    """The greatest number that divides all three."""
    # w comes first: it is often 1, and then there is nothing left to divide.
    return common_divisor(common_divisor(w, x), y)


def lowest(x, y, w):
    """The point at x / w and y / w; w is any whole number but nought."""
    divisor = point_divisor(x, y, w)
    if w < 0:
        divisor = -divisor
    return (x // divisor, y // divisor, w // divisor)


def gap_between(p, q):
    """The square of how far two points are apart, unchecked."""
    x, y, w = difference(p, q)
    return share(x * x + y * y, w * w)


def total(p, q):
    """p + q."""
    return lowest(p[0] * q[2] + q[0] * p[2], p[1] * q[2] + q[1] * p[2], p[2] * q[2])


def difference(p, q):
    """p - q."""
    return lowest(p[0] * q[2] - q[0] * p[2], p[1] * q[2] - q[1] * p[2], p[2] * q[2])


def middle(points):
    """The mean of one point or more."""
    x, y, w = sum_of_points(points)
    return lowest(x, y, w * len(points))


def sum_of_points(points):
    """All of these points together."""
    together = (0, 0, 1)
    for p in points:
        together = total(together, p)
    return together


def product(p, q):
    """p times q."""
    return lowest(p[0] * q[0] - p[1] * q[1], p[0] * q[1] + p[1] * q[0], p[2] * q[2])


def quotient(p, q):
    """The number that times q is p; q is not nought."""
    straight = p[0] * q[0] + p[1] * q[1]
    across = p[1] * q[0] - p[0] * q[1]
    return lowest(straight * q[2], across * q[2], p[2] * (q[0] * q[0] + q[1] * q[1]))


def flipped(p):
    """p with its second part turned about."""
    return (p[0], -p[1], p[2])


def in_order(points):
    """The list of these points in order."""
    below = common_multiple([p[2] for p in points])
    return sorted(points, key=lambda p: place_over(p, below))


def rows_in_order(rows):
    """Rows of points, told apart point by point in order."""
    below = common_multiple([p[2] for row in rows for p in row])
    return sorted(rows, key=lambda row: [place_over(p, below) for p in row])


def place_over(p, below):
    """The tops of both parts of p over this below, which its w divides."""
    return (p[0] * (below // p[2]), p[1] * (below // p[2]))
