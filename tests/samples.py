"""Points, motions and odd things for the tests, and a model in Fractions."""

from fractions import Fraction


class Prickly:
    """A thing that fails if it is asked for anything."""

    __hash__ = None

    def fail(self, *told):
        raise RuntimeError("asked a thing that is of no kind known here")

    __eq__ = __ne__ = __lt__ = __gt__ = __len__ = __iter__ = __bool__ = fail
    __repr__ = __str__ = __index__ = __int__ = __getitem__ = __contains__ = fail


POINTS = [
    (0, 0, 1), (1, 0, 1), (0, 1, 1), (-1, 0, 1), (3, -2, 1), (-7, 5, 1),
    (1, 1, 2), (-1, 3, 2), (2, 0, 3), (0, -5, 7), (-12, 35, 6), (22, 7, 15),
    (10 ** 40 + 1, -(10 ** 39), 3 * 10 ** 20),
]

QUARTER_TURNS = [(1, 0, 1), (0, 1, 1), (-1, 0, 1), (0, -1, 1)]

TURNS = QUARTER_TURNS + [
    (3, 4, 5), (-3, 4, 5), (4, -3, 5), (-4, -3, 5),
    (5, 12, 13), (-12, 5, 13), (8, -15, 17), (33, 56, 65),
]

SHIFTS = [(0, 0, 1), (2, 0, 1), (0, -3, 1), (5, 7, 1), (1, -1, 2), (-8, 9, 15)]

MOTIONS = [(turn, shift, flip) for turn in TURNS for shift in SHIFTS for flip in (0, 1)]

FEW_MOTIONS = MOTIONS[::7]

NO_WHOLE_NUMBERS = [
    None, True, False, "", "1", b"1", [], [1], (), (1,), {}, {1: 1}, set(), {1},
    frozenset(), object(), int, len, range(1), Prickly(), Fraction(1, 2), 1j,
]

NO_POINTS = NO_WHOLE_NUMBERS + [
    0, 1, -1, "001", b"\x00\x00\x01",
    [0, 0, 1], {0: 0, 1: 0, 2: 1}, range(3),
    (0, 0), (0, 0, 1, 1), ((0, 0, 1),), (0, 0, 1, None),
    (0, 0, 0), (1, 2, 0), (0, 0, -1), (3, 4, -5), (1, 0, -1),
    (0, 0, 2), (2, 4, 6), (2, 2, 2), (-3, 6, 9), (10, 0, 5),
    (True, 0, 1), (0, True, 1), (0, 0, True), (False, 0, 1), (0, False, 1), (1, 1, False),
    ("0", 0, 1), (0, "0", 1), (0, 0, "1"), (None, None, None),
    ([0], 0, 1), (0, (0,), 1), (0, 0, {}), (Prickly(), 0, 1), (0, Prickly(), 1), (0, 0, Prickly()),
]

NO_MOTIONS = NO_WHOLE_NUMBERS + [
    0, 1, (0, 0, 1), (1, 0, 1), [], "turn",
    [(1, 0, 1), (0, 0, 1), 0], ([1, 0, 1], (0, 0, 1), 0), ((1, 0, 1), [0, 0, 1], 0),
    ((1, 0, 1), (0, 0, 1)), ((1, 0, 1), (0, 0, 1), 0, 0), ((1, 0, 1), (0, 0, 1), (0,)),
    ((1, 0, 1), (0, 0, 1), True), ((1, 0, 1), (0, 0, 1), False),
    ((1, 0, 1), (0, 0, 1), 2), ((1, 0, 1), (0, 0, 1), -1), ((1, 0, 1), (0, 0, 1), None),
    ((1, 0, 1), (0, 0, 1), "0"), ((1, 0, 1), (0, 0, 1), []), ((1, 0, 1), (0, 0, 1), Prickly()),
    ((0, 0, 1), (0, 0, 1), 0), ((2, 0, 1), (0, 0, 1), 0), ((1, 1, 1), (0, 0, 1), 1),
    ((1, 0, 2), (0, 0, 1), 0), ((3, 4, 1), (0, 0, 1), 0), ((3, 4, 6), (0, 0, 1), 1),
    ((6, 8, 10), (0, 0, 1), 0), ((3, 4, -5), (0, 0, 1), 0), ((-1, 0, -1), (0, 0, 1), 0),
    ((True, 0, 1), (0, 0, 1), 0), ((1, False, 1), (0, 0, 1), 0), ((1, 0, True), (0, 0, 1), 0),
    ((1, 0, 1), (True, 0, 1), 0), ((1, 0, 1), (0, 0, True), 0), ((1, 0, 1), (0, 0, 2), 0),
    ((1, 0, 1), (0, 0, 0), 0), ((1, 0, 1), None, 0), (None, (0, 0, 1), 0),
    (Prickly(), (0, 0, 1), 0), ((1, 0, 1), Prickly(), 1),
]


def parts(p):
    """Where a point stands, as two Fractions."""
    x, y, w = p
    return Fraction(x, w), Fraction(y, w)


def model_led(motion, p):
    """Where a motion leads a point, as two Fractions."""
    turn, shift, flip = motion
    (t, u), (s, r), (x, y) = parts(turn), parts(shift), parts(p)
    if flip == 1:
        y = -y
    return t * x - u * y + s, t * y + u * x + r


def model_gap(p, q):
    """The square of how far two points are apart, as a Fraction."""
    (a, b), (c, d) = parts(p), parts(q)
    return (a - c) ** 2 + (b - d) ** 2
