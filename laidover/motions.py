"""Motions: a flip, if any, then a turn, then a shift.

The functions that the document lists refuse what is no motion or no point.
The others trust what they are handed.
"""

from laidover.errors import BadMotion, NoThing
from laidover.numbers import common_divisor, is_whole
from laidover.points import difference, flipped, gap_between, is_point, need_points, product, quotient, total

ORIGIN = (0, 0, 1)
NO_TURN = (1, 0, 1)
NO_MOTION = ((1, 0, 1), (0, 0, 1), 0)

# No other turn of shares ever does nothing, however often it is done.
TURN_ORDERS = {(-1, 0, 1): 2, (0, 1, 1): 4, (0, -1, 1): 4}


def is_motion(thing):
    """Whether a thing of any kind is a motion."""
    if not isinstance(thing, tuple) or len(thing) != 3:
        return False
    turn, shift, flip = thing
    if not is_point(turn) or not is_point(shift) or not is_flip(flip):
        return False
    return is_at_one(turn)


def led(motion, p):
    """The point to which a motion leads p."""
    need_motions(motion)
    need_points(p)
    return place_behind(motion, p)


def then(one, other):
    """The motion that does one and then the other."""
    need_motions(one, other)
    return joined(one, other)


def back(motion):
    """The motion that undoes a motion."""
    need_motions(motion)
    turn, shift, flip = motion
    # A flip turns the other way round, so behind one the same turn leads back.
    back_turn = turn if flip == 1 else flipped(turn)
    away = product(back_turn, faced(shift, flip))
    return (back_turn, difference(ORIGIN, away), flip)


def kind_of(motion):
    """The kind: "none", "shift", "turn", "mirror" or "glide"."""
    need_motions(motion)
    turn, shift, flip = motion
    if flip == 1:
        return "mirror" if joined(motion, motion) == NO_MOTION else "glide"
    if turn != NO_TURN:
        return "turn"
    return "none" if shift == ORIGIN else "shift"


def order_of(motion):
    """How often done a motion first does nothing; None if it never does."""
    kind = kind_of(motion)
    if kind == "none":
        return 1
    if kind == "mirror":
        return 2
    if kind == "turn":
        return TURN_ORDERS.get(motion[0])
    return None


def center(motion):
    """The one point that a turn leaves where it is."""
    if kind_of(motion) != "turn":
        raise NoThing("only a turn has a center")
    turn, shift = motion[0], motion[1]
    return quotient(shift, difference(NO_TURN, turn))


def axis(motion):
    """The line (a, b, c) that a mirror or glide leads to itself."""
    need_motions(motion)
    turn, shift, flip = motion
    if flip == 0:
        raise NoThing("only a mirror or a glide has an axis")
    # The axis points along 1 + turn, or upwards where that is nought, and
    # goes through half the shift, halfway between (0, 0) and where it is led.
    along, up = turn[0] + turn[2], turn[1]
    if along == 0:
        up = 1
    a, b = 2 * shift[2] * up, -2 * shift[2] * along
    return lowest_line(a, b, along * shift[1] - up * shift[0])


def leading(a, b, c, d):
    """Both motions that lead a to c and b to d: without a flip, with it."""
    need_points(a, b, c, d)
    if a == b:
        raise NoThing("one point alone does not settle a motion")
    if gap_between(a, b) != gap_between(c, d):
        raise NoThing("the points are not as far apart")
    return both_leading(a, b, c, d)


def shifting(p, q):
    """The shift that leads p to q."""
    need_points(p, q)
    return bringing(NO_TURN, 0, p, q)


def turning(center_point, turn):
    """The motion that turns round a point."""
    need_points(center_point, turn)
    if not is_at_one(turn):
        raise BadMotion("a turn is at 1 from (0, 0)")
    return bringing(turn, 0, center_point, center_point)


def need_motions(*things):
    """Refuse things of which one is no motion."""
    for thing in things:
        if not is_motion(thing):
            raise BadMotion("this is no motion")


def is_flip(thing):
    """Whether a thing is 0 or 1; True and False are neither."""
    return is_whole(thing) and thing in (0, 1)


def is_at_one(p):
    """Whether a point is at 1 from (0, 0)."""
    return p[0] * p[0] + p[1] * p[1] == p[2] * p[2]


def faced(p, flip):
    """p as a motion with this flip takes it."""
    return flipped(p) if flip == 1 else p


def place_behind(motion, p):
    """The point to which a motion leads p, unchecked."""
    turn, shift, flip = motion
    return total(product(turn, faced(p, flip)), shift)


def joined(one, other):
    """One motion and then the other, unchecked."""
    turn = product(other[0], faced(one[0], other[2]))
    return (turn, place_behind(other, one[1]), one[2] ^ other[2])


def bringing(turn, flip, p, q):
    """The motion with this turn and flip that leads p to q."""
    return (turn, difference(q, product(turn, faced(p, flip))), flip)


def both_leading(a, b, c, d):
    """Both motions that lead a to c and b to d, unchecked."""
    here, there = difference(b, a), difference(d, c)
    plain = bringing(quotient(there, here), 0, a, c)
    return (plain, bringing(quotient(there, flipped(here)), 1, a, c))


def leading_to_pairs(a, b, pairs):
    """All motions that lead a and b to some of these pairs, either way round.

    The points of each pair are as far apart as a and b.
    """
    found = []
    for c, d in pairs:
        found.extend(both_leading(a, b, c, d))
        found.extend(both_leading(a, b, d, c))
    return found


def lowest_line(a, b, c):
    """A line in lowest terms, the first of a and b not nought above nought."""
    divisor = common_divisor(common_divisor(a, b), c)
    if a < 0 or (a == 0 and b < 0):
        divisor = -divisor
    return (a // divisor, b // divisor, c // divisor)
