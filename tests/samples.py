"""Points, motions, heaps and odd things for the tests, and a model in Fractions."""

from fractions import Fraction
from itertools import combinations, permutations
from math import lcm


class Prickly:
    """A thing that fails if it is asked for anything."""

    __hash__ = None

    def fail(self, *told):
        raise RuntimeError("asked a thing that is of no kind known here")

    __eq__ = __ne__ = __lt__ = __gt__ = __len__ = __iter__ = __bool__ = fail
    __repr__ = __str__ = __index__ = __int__ = __getitem__ = __contains__ = fail


POINTS = [
    (0, 0, 1), (1, 0, 1), (0, 1, 1), (-1, 0, 1), (3, -2, 1), (-7, 5, 1),
    (1, 1, 2), (-1, 3, 2), (2, 0, 3), (0, -5, 7), (-12, 35, 6), (22, 7, 15),
    (10 ** 40 + 1, -(10 ** 39), 3 * 10 ** 20),
]

QUARTER_TURNS = [(1, 0, 1), (0, 1, 1), (-1, 0, 1), (0, -1, 1)]

TURNS = QUARTER_TURNS + [
    (3, 4, 5), (-3, 4, 5), (4, -3, 5), (-4, -3, 5),
    (5, 12, 13), (-12, 5, 13), (8, -15, 17), (33, 56, 65),
]

SHIFTS = [(0, 0, 1), (2, 0, 1), (0, -3, 1), (5, 7, 1), (1, -1, 2), (-8, 9, 15)]

MOTIONS = [(turn, shift, flip) for turn in TURNS for shift in SHIFTS for flip in (0, 1)]

FEW_MOTIONS = MOTIONS[::7]

NO_WHOLE_NUMBERS = [
    None, True, False, "", "1", b"1", [], [1], (), (1,), {}, {1: 1}, set(), {1},
    frozenset(), object(), int, len, range(1), Prickly(), Fraction(1, 2), 1j,
]

NO_POINTS = NO_WHOLE_NUMBERS + [
    0, 1, -1, "001", b"\x00\x00\x01",
    [0, 0, 1], {0: 0, 1: 0, 2: 1}, range(3),
    (0, 0), (0, 0, 1, 1), ((0, 0, 1),), (0, 0, 1, None),
    (0, 0, 0), (1, 2, 0), (0, 0, -1), (3, 4, -5), (1, 0, -1),
    (0, 0, 2), (2, 4, 6), (2, 2, 2), (-3, 6, 9), (10, 0, 5),
    (True, 0, 1), (0, True, 1), (0, 0, True), (False, 0, 1), (0, False, 1), (1, 1, False),
    ("0", 0, 1), (0, "0", 1), (0, 0, "1"), (None, None, None),
    ([0], 0, 1), (0, (0,), 1), (0, 0, {}), (Prickly(), 0, 1), (0, Prickly(), 1), (0, 0, Prickly()),
]

NO_MOTIONS = NO_WHOLE_NUMBERS + [
    0, 1, (0, 0, 1), (1, 0, 1), [], "turn",
    [(1, 0, 1), (0, 0, 1), 0], ([1, 0, 1], (0, 0, 1), 0), ((1, 0, 1), [0, 0, 1], 0),
    ((1, 0, 1), (0, 0, 1)), ((1, 0, 1), (0, 0, 1), 0, 0), ((1, 0, 1), (0, 0, 1), (0,)),
    ((1, 0, 1), (0, 0, 1), True), ((1, 0, 1), (0, 0, 1), False),
    ((1, 0, 1), (0, 0, 1), 2), ((1, 0, 1), (0, 0, 1), -1), ((1, 0, 1), (0, 0, 1), None),
    ((1, 0, 1), (0, 0, 1), "0"), ((1, 0, 1), (0, 0, 1), []), ((1, 0, 1), (0, 0, 1), Prickly()),
    ((0, 0, 1), (0, 0, 1), 0), ((2, 0, 1), (0, 0, 1), 0), ((1, 1, 1), (0, 0, 1), 1),
    ((1, 0, 2), (0, 0, 1), 0), ((3, 4, 1), (0, 0, 1), 0), ((3, 4, 6), (0, 0, 1), 1),
    ((6, 8, 10), (0, 0, 1), 0), ((3, 4, -5), (0, 0, 1), 0), ((-1, 0, -1), (0, 0, 1), 0),
    ((True, 0, 1), (0, 0, 1), 0), ((1, False, 1), (0, 0, 1), 0), ((1, 0, True), (0, 0, 1), 0),
    ((1, 0, 1), (True, 0, 1), 0), ((1, 0, 1), (0, 0, True), 0), ((1, 0, 1), (0, 0, 2), 0),
    ((1, 0, 1), (0, 0, 0), 0), ((1, 0, 1), None, 0), (None, (0, 0, 1), 0),
    (Prickly(), (0, 0, 1), 0), ((1, 0, 1), Prickly(), 1),
]


TWO = [(0, 0, 1), (2, 0, 1)]
SQUARE = [(1, 1, 1), (0, 0, 1), (0, 1, 1), (1, 0, 1)]
TILTED_SQUARE = [(7, 1, 5), (0, 0, 1), (3, 4, 5), (4, -3, 5)]
RECTANGLE = ((2, 1, 1), (0, 1, 1), (0, 0, 1), (2, 0, 1))
RHOMBUS = [(2, 0, 1), (-2, 0, 1), (0, 1, 1), (0, -1, 1)]
SLANTED = [(4, 1, 1), (0, 0, 1), (3, 0, 1), (1, 1, 1)]
EVEN_SIDED = [(0, 0, 1), (2, 0, 1), (1, 3, 1)]
UNEVEN = [(3, 0, 1), (0, 0, 1), (1, 1, 1)]
ROW = [(0, 0, 1), (1, 0, 1), (2, 0, 1)]
UNEVEN_ROW = [(6, 8, 1), (0, 0, 1), (3, 4, 5)]
PINWHEEL = (
    (3, 0, 1), (0, 3, 1), (-3, 0, 1), (0, -3, 1),
    (2, 1, 1), (-1, 2, 1), (-2, -1, 1), (1, -2, 1),
)
WITH_SHARES = [(1, 1, 2), (-1, 3, 2), (2, 0, 3), (0, -5, 7), (22, 7, 15)]
FAR_OFF = [(10 ** 40 + 1, -(10 ** 39), 3 * 10 ** 20), (10 ** 41, 7, 3), (0, 0, 1)]
GRID = [(x, y, 1) for y in range(4) for x in range(4)][:14]
RING = [(x, y, 5) for x, y in (
    (3, 4), (4, 3), (-3, 4), (4, -3), (-4, 3), (3, -4), (-3, -4), (-4, -3),
)] + [(1, 0, 1), (0, 1, 1), (-1, 0, 1), (0, -1, 1)]

SMALL_HEAPS = [
    TWO, SQUARE, TILTED_SQUARE, RECTANGLE, RHOMBUS, SLANTED, EVEN_SIDED, UNEVEN, ROW, UNEVEN_ROW, WITH_SHARES,
]

HEAPS = SMALL_HEAPS + [PINWHEEL, FAR_OFF, GRID, RING]

# All heaps of three points among nine.
TRIPLES = list(combinations([(x, y, 1) for x in range(3) for y in range(3)], 3))

LOOPED = [(0, 0, 1)]
LOOPED.append(LOOPED)

NO_HEAPS = NO_WHOLE_NUMBERS + [
    0, 2, "ab", b"ab", (0, 0, 1), ((1, 0, 1), (0, 0, 1), 0),
    [(0, 0, 1)], ((0, 0, 1),),
    [(x, 0, 1) for x in range(15)], tuple((x, 0, 1) for x in range(15)), [(x, 0, 1) for x in range(100)],
    [(0, 0, 1), (0, 0, 1)], ((0, 0, 1), (1, 0, 1), (0, 0, 1)), [(x % 13, 0, 1) for x in range(14)],
    [(0, 0, 1), (0, 0, 1), (1, 0, 1), (2, 0, 1)],
    [(0, 0, 1), (2, 4, 6)], [(0, 0, 2), (1, 0, 1)], [(0, 0, 1), (1, 0, -1)], [(0, 0, 1), (1, 0, 0)],
    [(0, 0, 1), (True, 0, 1)], [(0, 0, 1), (1, False, 1)], [(0, 0, True), (1, 0, 1)],
    [(1, 0, 1), (True, 0, 1)], [(0, 0, 1), True], [True, False],
    [[0, 0, 1], (1, 0, 1)], ([0, 0, 1], [1, 0, 1]), [(0, 0, 1), "101"], [(0, 0, 1), None],
    [(0, 0, 1), (1, 0)], [(0, 0, 1), (1, 0, 1, 1)], [(0, 0, 1), 1], [(0, 0, 1), ((1, 0, 1),)],
    [[(0, 0, 1), (1, 0, 1)]], [[(0, 0, 1), (1, 0, 1)], [(0, 0, 1), (1, 0, 1)]],
    {(0, 0, 1): 1, (1, 0, 1): 2}, {(0, 0, 1), (1, 0, 1)}, frozenset([(0, 0, 1), (1, 0, 1)]),
    iter([(0, 0, 1), (1, 0, 1)]), {(0, 0, 1): 1}.keys(), range(3), range(2),
    [Prickly(), (0, 0, 1)], [(0, 0, 1), Prickly()], [(0, 0, 1), (Prickly(), 0, 1)], (Prickly(), Prickly()),
    [{}, {}], [(0, 0, 1), ([], 0, 1)], [(0, 0, 1), set()], LOOPED,
]

# Lists of as many points, 1 to 14, like ones among them.
PARTNERS = [
    ([(0, 0, 1)], [(3, -4, 5)]),
    ([(7, 1, 2)], [(7, 1, 2)]),
    ([(0, 0, 1), (0, 0, 1)], [(1, 0, 1), (0, 1, 1)]),
    ([(1, 1, 1), (1, 1, 1), (1, 1, 1)], [(2, 3, 7), (2, 3, 7), (2, 3, 7)]),
    ([(0, 0, 1), (4, 0, 1)], [(0, 0, 1), (0, 4, 1)]),
    ([(0, 0, 1), (1, 0, 1)], [(0, 0, 1), (1, 1, 1)]),
    (SQUARE, TILTED_SQUARE), (TILTED_SQUARE, SQUARE), (RHOMBUS, SLANTED), (UNEVEN, EVEN_SIDED), (ROW, UNEVEN_ROW),
    (ROW, ROW[::-1]), (SQUARE, SQUARE[1:] + SQUARE[:1]), (WITH_SHARES, WITH_SHARES[::-1]),
    (WITH_SHARES, SQUARE + [(0, 0, 1)]), (SQUARE + SQUARE[:2], RING[:6]), (list(PINWHEEL), RING[:8]),
    (GRID, RING + RING[:2]), (FAR_OFF, UNEVEN),
]

# Each of them is refused as one list of partners, whatever the other one is.
NO_PARTNERS = NO_WHOLE_NUMBERS + [
    0, 2, "ab", b"ab", (0, 0, 1), ((0, 0, 1),), ((0, 0, 1), (1, 0, 1)), tuple(SQUARE),
    [(x, 0, 1) for x in range(15)], [(0, 0, 1)] * 15, [(0, 0, 1)] * 100,
    [[0, 0, 1]], [(0, 0, 2)], [(0, 0, 0)], [(1, 0, -1)], [(0, 0)], [(0, 0, 1, 1)], [None], [0], ["001"],
    [(True, 0, 1)], [(0, False, 1)], [(0, 0, True)], [True], [[(0, 0, 1)]], [((0, 0, 1),)],
    [(0, 0, 1), None], [(0, 0, 1), (0, 0, 2)], [(0, 0, 1), [0, 0, 1]], [(0, 0, 1), (True, 0, 1)],
    {(0, 0, 1): 1}, {0: (0, 0, 1)}, {(0, 0, 1)}, frozenset([(0, 0, 1)]), iter([(0, 0, 1)]), range(1),
    [Prickly()], [(0, 0, 1), Prickly()], [(0, Prickly(), 1)], [{}], [set()], LOOPED,
]

NO_FLIPS = NO_WHOLE_NUMBERS + [2, -1, 10 ** 30, "0", (0,), [1]]

NO_NAMES = [thing for thing in NO_WHOLE_NUMBERS if thing.__class__ is not str] + ["", 0, 1, ("a",), ["a"], {"a": 1}]


def parts(p):
    """Where a point stands, as two Fractions."""
    x, y, w = p
    return Fraction(x, w), Fraction(y, w)


def model_led(motion, p):
    """Where a motion leads a point, as two Fractions."""
    turn, shift, flip = motion
    (t, u), (s, r), (x, y) = parts(turn), parts(shift), parts(p)
    if flip == 1:
        y = -y
    return t * x - u * y + s, t * y + u * x + r


def model_gap(p, q):
    """The square of how far two points are apart, as a Fraction."""
    (a, b), (c, d) = parts(p), parts(q)
    return (a - c) ** 2 + (b - d) ** 2


def model_cost(one, other):
    """The sum of the squares of how far partners are apart, as a Fraction."""
    return sum(model_gap(p, q) for p, q in zip(one, other))


def as_share(number):
    """A Fraction as a share."""
    return (number.numerator, number.denominator)


def standing(x, y):
    """The point that stands at two Fractions."""
    w = lcm(x.denominator, y.denominator)
    return (int(x * w), int(y * w), w)


def by_parts(points):
    """Points in order."""
    return sorted(points, key=parts)


def scaled(factor, points):
    """A heap with all points multiplied by a number x + y i."""
    a, b = parts(factor)
    return [standing(a * x - b * y, a * y + b * x) for x, y in map(parts, points)]


def model_motion(a, b, c, d, flip):
    """The motion with this flip that leads a to c and b to d."""
    sign = -1 if flip == 1 else 1
    (ax, ay), (bx, by), (cx, cy), (dx, dy) = parts(a), parts(b), parts(c), parts(d)
    ay, by = sign * ay, sign * by
    x, y, u, v = bx - ax, by - ay, dx - cx, dy - cy
    t, r = (u * x + v * y) / (x * x + y * y), (v * x - u * y) / (x * x + y * y)
    return (standing(t, r), standing(cx - (t * ax - r * ay), cy - (t * ay + r * ax)), flip)


def slow_motions(one, other):
    """From each motion that lays two points or more to how many it lays."""
    places = set(map(parts, other))
    found = {
        model_motion(a, b, c, d, flip)
        for a, b in permutations(one, 2)
        for c, d in permutations(other, 2)
        if model_gap(a, b) == model_gap(c, d)
        for flip in (0, 1)
    }
    return {motion: sum(model_led(motion, p) in places for p in one) for motion in found}


def slow_laying(one, other):
    """All motions that lay one heap wholly over the other one, rising."""
    if len(one) != len(other):
        return []
    return sorted(motion for motion, many in slow_motions(one, other).items() if many == len(one))
