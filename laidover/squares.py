"""Sums of squares: how near lists of partners, or heaps, can come to one another.

The functions that the document lists, but for is_less, refuse what does not
fit. The others trust what they are handed.
"""

from laidover.errors import BadPairs
from laidover.heaps import MOST_POINTS, need_heaps
from laidover.motions import NO_TURN, ORIGIN, bringing, faced, is_flip, need_motions, place_behind
from laidover.numbers import common_below, rising, sum_of, top_over, whole_root
from laidover.points import difference, flipped, gap_between, is_point, lowest, middle, product, sum_of_points, total

MOST_PAIRED = 6


def cost(one, other):
    """The sum of the squares of how far partners are apart."""
    need_partners(one, other)
    return cost_between(one, other)


def cost_behind(motion, one, other):
    """The cost where a motion leads the points of the first list ahead."""
    need_motions(motion)
    need_partners(one, other)
    return cost_between([place_behind(motion, p) for p in one], other)


def nearest_shift(one, other):
    """The shift behind which the cost is least, and that cost."""
    need_partners(one, other)
    shift = shift_of_means(one, other)
    return (shift, cost_between([total(p, shift) for p in one], other))


def nearest_turn(one, other, *, flip=0):
    """The least cost behind a turn and a shift: (s, t), s less twice the root of t."""
    need_partners(one, other)
    need_flip(flip)
    squares = [gap_between(p, ORIGIN) for p in from_mean(one) + from_mean(other)]
    return (sum_of(squares), gap_between(sum_of_products(one, other, flip), ORIGIN))


def turn_motion(one, other, *, flip=0):
    """A motion with just the cost of the nearest turn, None if none is of shares."""
    need_partners(one, other)
    need_flip(flip)
    turn = turn_towards(sum_of_products(one, other, flip))
    if turn is None:
        return None
    return bringing(turn, flip, middle(one), middle(other))


def is_less(one, other):
    """Whether s less twice the root of t is below that of another (s, t)."""
    (s, t), (u, v) = one, other
    below = common_below([s, t, u, v])
    # Asked is: lead + root of there < root of here, all multiplied by below.
    lead = top_over(s, below) - top_over(u, below)
    here, there = 4 * below * top_over(t, below), 4 * below * top_over(v, below)
    if lead < 0 and lead * lead > there:
        return True
    # Both sides are nought or above now, so their squares tell. What is asked
    # is then: 2 * lead * root of there < rest, and squares with signs tell that.
    rest = here - there - lead * lead
    return 4 * lead * abs(lead) * there < rest * abs(rest)


def paired(one, other):
    """The order of partners that costs least behind a shift, that shift, that cost."""
    need_partners(one, other)
    if len(one) > MOST_PAIRED:
        raise BadPairs("up to 6 points are paired")
    # However the points are paired, their means are the same, and so is the shift.
    shift = shift_of_means(one, other)
    table = [[gap_between(total(p, shift), q) for q in other] for p in one]
    order = cheapest_order(table)
    return (order, shift, sum_of([table[at][to] for at, to in enumerate(order)]))


def apart(one, other):
    """How far a point of either heap is from the nearest of the other at most, squared."""
    need_heaps(one, other)
    return rising(nearest_gaps(one, other) + nearest_gaps(other, one))[-1]


def need_partners(one, other):
    """Refuse what are no two lists of as many points, 1 to 14."""
    for points in (one, other):
        if not isinstance(points, list) or len(points) < 1 or len(points) > MOST_POINTS:
            raise BadPairs("partners are lists of 1 to 14 points")
        if not all([is_point(p) for p in points]):
            raise BadPairs("partners are points")
    if len(one) != len(other):
        raise BadPairs("there are as many partners in both lists")


def need_flip(thing):
    """Refuse what is neither 0 nor 1."""
    if not is_flip(thing):
        raise BadPairs("a flip is 0 or 1")


def cost_between(one, other):
    """The cost, unchecked."""
    return sum_of([gap_between(p, q) for p, q in zip(one, other)])


def shift_of_means(one, other):
    """The shift that leads the mean of one to that of the other."""
    return difference(middle(other), middle(one))


def from_mean(points):
    """The points as they stand from their mean."""
    mean_point = middle(points)
    return [difference(p, mean_point) for p in points]


def sum_of_products(one, other, flip):
    """The sum of the second ones' products with the first ones, turned about, from their means."""
    firsts = [flipped(faced(p, flip)) for p in from_mean(one)]
    return sum_of_points([product(q, p) for p, q in zip(firsts, from_mean(other))])


def turn_towards(p):
    """The turn that has the direction of p, None if it is not one of shares."""
    if p == ORIGIN:
        return NO_TURN
    square = p[0] * p[0] + p[1] * p[1]
    root = whole_root(square)
    if root * root != square:
        return None
    return lowest(p[0], p[1], root)


def cheapest_order(table):
    """The first of the orders whose sum is least: row by row its place in the row."""
    below = common_below([part for row in table for part in row])
    tops = [[top_over(part, below) for part in row] for row in table]
    return min(all_orders(len(tops)), key=lambda order: sum([tops[at][to] for at, to in enumerate(order)]))


def all_orders(many):
    """All orders of so many numbers from 0, rising as tuples."""
    rows = [()]
    for step in range(many):
        rows = [(*row, at) for row in rows for at in range(many) if at not in row]
    return rows


def nearest_gaps(one, other):
    """For each point of one heap the gap to the nearest of the other."""
    return [rising([gap_between(p, q) for q in other])[0] for p in one]
