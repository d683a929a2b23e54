import copy
import unittest

from laidover.errors import BadMotion, BadPoint, NoThing
from laidover.motions import (
    axis, back, center, is_motion, kind_of, leading, led, order_of, shifting, then, turning,
)
from laidover.points import is_point, square_gap
from tests.samples import (
    FEW_MOTIONS, MOTIONS, NO_MOTIONS, NO_POINTS, POINTS, TURNS, model_led, parts,
)

ORIGIN = (0, 0, 1)
STAY = ((1, 0, 1), (0, 0, 1), 0)
QUARTER = ((0, 1, 1), (0, 0, 1), 0)


def done(motion, often):
    told = STAY
    for _ in range(often):
        told = then(told, motion)
    return told


class TestIsMotion(unittest.TestCase):
    def test_motions(self):
        for motion in MOTIONS:
            self.assertIs(is_motion(motion), True)

    def test_no_motions(self):
        for at, thing in enumerate(NO_MOTIONS):
            with self.subTest(at=at):
                self.assertIs(is_motion(thing), False)


class TestLed(unittest.TestCase):
    def test_quarter_turns(self):
        self.assertEqual(led(QUARTER, (1, 0, 1)), (0, 1, 1))
        self.assertEqual(led(QUARTER, (2, 3, 1)), (-3, 2, 1))
        self.assertEqual(led(((-1, 0, 1), ORIGIN, 0), (2, 3, 1)), (-2, -3, 1))
        self.assertEqual(led(((0, -1, 1), ORIGIN, 0), (2, 3, 1)), (3, -2, 1))

    def test_shift_is_added_behind_the_turn(self):
        self.assertEqual(led(((0, 1, 1), (10, 20, 1), 0), (2, 3, 1)), (7, 22, 1))

    def test_flip_comes_ahead_of_the_turn(self):
        self.assertEqual(led(((1, 0, 1), ORIGIN, 1), (2, 3, 1)), (2, -3, 1))
        self.assertEqual(led(((0, 1, 1), ORIGIN, 1), (2, 3, 1)), (3, 2, 1))
        self.assertEqual(led(((0, 1, 1), (10, 20, 1), 1), (2, 3, 1)), (13, 22, 1))

    def test_turns_of_shares(self):
        self.assertEqual(led(((3, 4, 5), ORIGIN, 0), (5, 0, 1)), (3, 4, 1))
        self.assertEqual(led(((3, 4, 5), ORIGIN, 0), (1, 1, 1)), (-1, 7, 5))
        self.assertEqual(led(((3, 4, 5), ORIGIN, 1), (1, 1, 1)), (7, 1, 5))
        self.assertEqual(led(((5, 12, 13), ORIGIN, 0), (13, 0, 1)), (5, 12, 1))
        self.assertEqual(led(((5, 12, 13), (1, 0, 13), 0), (1, 0, 1)), (6, 12, 13))

    def test_as_the_model_tells(self):
        for motion in MOTIONS:
            for p in POINTS:
                told = led(motion, p)
                self.assertIs(is_point(told), True)
                self.assertEqual(parts(told), model_led(motion, p))

    def test_distances_stay(self):
        for motion in FEW_MOTIONS:
            for p in POINTS:
                for q in POINTS:
                    self.assertEqual(square_gap(led(motion, p), led(motion, q)), square_gap(p, q))


class TestThenAndBack(unittest.TestCase):
    def test_one_comes_first(self):
        right = ((1, 0, 1), (1, 0, 1), 0)
        self.assertEqual(then(right, QUARTER), ((0, 1, 1), (0, 1, 1), 0))
        self.assertEqual(then(QUARTER, right), ((0, 1, 1), (1, 0, 1), 0))

    def test_both_in_turn(self):
        for one in MOTIONS[::5]:
            for other in FEW_MOTIONS:
                both = then(one, other)
                self.assertIs(is_motion(both), True)
                for p in POINTS[::2]:
                    self.assertEqual(led(both, p), led(other, led(one, p)))

    def test_nothing_beside_a_motion(self):
        for motion in MOTIONS:
            self.assertEqual(then(STAY, motion), motion)
            self.assertEqual(then(motion, STAY), motion)

    def test_back_does_nothing_on_either_side(self):
        for motion in MOTIONS:
            undone = back(motion)
            self.assertIs(is_motion(undone), True)
            self.assertEqual(then(motion, undone), STAY)
            self.assertEqual(then(undone, motion), STAY)

    def test_back_by_hand(self):
        self.assertEqual(back(((3, 4, 5), ORIGIN, 0)), ((3, -4, 5), ORIGIN, 0))
        self.assertEqual(back(((1, 0, 1), (2, -1, 3), 0)), ((1, 0, 1), (-2, 1, 3), 0))
        self.assertEqual(back(((0, 1, 1), ORIGIN, 1)), ((0, 1, 1), ORIGIN, 1))


class TestKindAndOrder(unittest.TestCase):
    CASES = [
        (STAY, "none", 1),
        (((1, 0, 1), (1, 0, 1), 0), "shift", None),
        (((1, 0, 1), (0, -1, 7), 0), "shift", None),
        (((-1, 0, 1), ORIGIN, 0), "turn", 2),
        (((-1, 0, 1), (5, 7, 2), 0), "turn", 2),
        (((0, 1, 1), (5, 7, 2), 0), "turn", 4),
        (((0, -1, 1), ORIGIN, 0), "turn", 4),
        (((3, 4, 5), ORIGIN, 0), "turn", None),
        (((5, -12, 13), (1, 1, 1), 0), "turn", None),
        (((1, 0, 1), ORIGIN, 1), "mirror", 2),
        (((1, 0, 1), (0, 3, 1), 1), "mirror", 2),
        (((-1, 0, 1), (3, 0, 1), 1), "mirror", 2),
        (((0, 1, 1), (1, -1, 2), 1), "mirror", 2),
        (((3, 4, 5), ORIGIN, 1), "mirror", 2),
        (((3, 4, 5), (-1, 2, 1), 1), "mirror", 2),
        (((1, 0, 1), (1, 0, 1), 1), "glide", None),
        (((-1, 0, 1), (3, 1, 9), 1), "glide", None),
        (((0, 1, 1), (1, 1, 1), 1), "glide", None),
        (((3, 4, 5), (2, 1, 1), 1), "glide", None),
    ]

    def test_each_kind(self):
        for motion, kind, order in self.CASES:
            with self.subTest(motion=motion):
                self.assertEqual(kind_of(motion), kind)
                self.assertEqual(order_of(motion), order)

    def test_kind_of_many(self):
        for motion in MOTIONS:
            turn, shift, flip = motion
            if flip == 1:
                kind = "mirror" if then(motion, motion) == STAY else "glide"
            elif turn == (1, 0, 1):
                kind = "none" if shift == ORIGIN else "shift"
            else:
                kind = "turn"
            self.assertEqual(kind_of(motion), kind)

    def test_order_is_how_often_it_first_does_nothing(self):
        for motion in MOTIONS:
            first = [often for often in range(1, 9) if done(motion, often) == STAY]
            self.assertEqual(order_of(motion), first[0] if first else None)


class TestCenter(unittest.TestCase):
    def test_by_hand(self):
        self.assertEqual(center(QUARTER), ORIGIN)
        self.assertEqual(center(((-1, 0, 1), (3, 4, 1), 0)), (3, 4, 2))
        self.assertEqual(center(((0, 1, 1), (1, 0, 1), 0)), (1, 1, 2))

    def test_the_point_stays(self):
        for motion in MOTIONS:
            if kind_of(motion) == "turn":
                still = center(motion)
                self.assertIs(is_point(still), True)
                self.assertEqual(led(motion, still), still)

    def test_nothing_of_no_turn(self):
        for motion in MOTIONS:
            if kind_of(motion) != "turn":
                with self.assertRaises(NoThing):
                    center(motion)


class TestAxis(unittest.TestCase):
    def test_by_hand(self):
        self.assertEqual(axis(((1, 0, 1), ORIGIN, 1)), (0, 1, 0))
        self.assertEqual(axis(((-1, 0, 1), ORIGIN, 1)), (1, 0, 0))
        self.assertEqual(axis(((0, 1, 1), ORIGIN, 1)), (1, -1, 0))
        self.assertEqual(axis(((0, -1, 1), ORIGIN, 1)), (1, 1, 0))
        self.assertEqual(axis(((1, 0, 1), (0, 3, 1), 1)), (0, 2, -3))
        self.assertEqual(axis(((1, 0, 1), (9, -4, 1), 1)), (0, 1, 2))
        self.assertEqual(axis(((-1, 0, 1), (1, 5, 3), 1)), (6, 0, -1))
        self.assertEqual(axis(((3, 4, 5), ORIGIN, 1)), (1, -2, 0))
        self.assertEqual(axis(((3, 4, 5), (2, 1, 1), 1)), (1, -2, 0))
        self.assertEqual(axis(((3, 4, 5), (-1, 2, 1), 1)), (2, -4, 5))

    def test_lowest_terms(self):
        for line in [axis(motion) for motion in MOTIONS if motion[2] == 1]:
            a, b, c = line
            self.assertIs(type(line), tuple)
            first = a if a != 0 else b
            self.assertGreater(first, 0)
            shrunk = [n for n in range(2, abs(a) + abs(b) + 1) if a % n == b % n == c % n == 0]
            self.assertEqual(shrunk, [])

    def test_halfway_points_are_on_it(self):
        for motion in MOTIONS:
            if motion[2] == 1:
                a, b, c = axis(motion)
                for p in POINTS:
                    (x, y), (u, v) = parts(p), parts(led(motion, p))
                    self.assertEqual(a * (x + u) / 2 + b * (y + v) / 2 + c, 0)

    def test_nothing_without_a_flip(self):
        for motion in MOTIONS:
            if motion[2] == 0:
                with self.assertRaises(NoThing):
                    axis(motion)


class TestLeading(unittest.TestCase):
    def assert_leads(self, a, b, c, d):
        told = leading(a, b, c, d)
        self.assertIs(type(told), tuple)
        self.assertEqual([motion[2] for motion in told], [0, 1])
        for motion in told:
            self.assertIs(is_motion(motion), True)
            self.assertEqual(led(motion, a), c)
            self.assertEqual(led(motion, b), d)

    def test_by_hand(self):
        told = leading((0, 0, 1), (5, 0, 1), (1, 1, 1), (4, 5, 1))
        self.assertEqual(told, (((3, 4, 5), (1, 1, 1), 0), ((3, 4, 5), (1, 1, 1), 1)))
        told = leading((0, 0, 1), (0, 1, 1), (0, 0, 1), (0, 1, 1))
        self.assertEqual(told, (STAY, ((-1, 0, 1), ORIGIN, 1)))

    def test_both_lead_so(self):
        for motion in FEW_MOTIONS:
            for a in POINTS[::3]:
                for b in POINTS:
                    if a != b:
                        self.assert_leads(a, b, led(motion, a), led(motion, b))

    def test_the_motion_itself_is_found_again(self):
        for motion in MOTIONS:
            a, b = (1, 1, 2), (-7, 5, 1)
            self.assertEqual(leading(a, b, led(motion, a), led(motion, b))[motion[2]], motion)

    def test_the_two_points_may_be_changed_about(self):
        self.assert_leads((0, 0, 1), (1, 0, 1), (1, 0, 1), (0, 0, 1))

    def test_nothing_of_one_point(self):
        for p in POINTS:
            for c, d in ((p, p), (ORIGIN, ORIGIN), (ORIGIN, (1, 0, 1))):
                with self.assertRaises(NoThing):
                    leading(p, p, c, d)

    def test_nothing_if_not_as_far_apart(self):
        with self.assertRaises(NoThing):
            leading((0, 0, 1), (1, 0, 1), (0, 0, 1), (2, 0, 1))
        with self.assertRaises(NoThing):
            leading((0, 0, 1), (1, 0, 1), (0, 0, 1), (1, 1, 1))
        with self.assertRaises(NoThing):
            leading((0, 0, 1), (1, 0, 1), (3, 3, 1), (3, 3, 1))


class TestShiftingAndTurning(unittest.TestCase):
    def test_shifting(self):
        self.assertEqual(shifting((1, 2, 1), (4, 0, 1)), ((1, 0, 1), (3, -2, 1), 0))
        for p in POINTS:
            for q in POINTS:
                motion = shifting(p, q)
                self.assertIs(is_motion(motion), True)
                self.assertEqual(led(motion, p), q)
                self.assertEqual(kind_of(motion), "none" if p == q else "shift")

    def test_turning(self):
        self.assertEqual(turning((1, 0, 1), (-1, 0, 1)), ((-1, 0, 1), (2, 0, 1), 0))
        self.assertEqual(turning((1, 0, 1), (0, 1, 1)), ((0, 1, 1), (1, -1, 1), 0))
        for p in POINTS:
            for turn in TURNS:
                motion = turning(p, turn)
                self.assertIs(is_motion(motion), True)
                self.assertEqual((motion[0], motion[2]), (turn, 0))
                self.assertEqual(led(motion, p), p)
                if turn != (1, 0, 1):
                    self.assertEqual(center(motion), p)

    def test_turning_by_nothing(self):
        for p in POINTS:
            self.assertEqual(turning(p, (1, 0, 1)), STAY)

    def test_turn_not_at_one_is_refused(self):
        for turn in (ORIGIN, (2, 0, 1), (1, 1, 1), (3, 4, 1), (3, 4, 6), (1, 0, 2)):
            for p in POINTS:
                with self.assertRaises(BadMotion):
                    turning(p, turn)


class TestRefusals(unittest.TestCase):
    def assert_refuses(self, refusal, asked, *handed):
        with self.assertRaises(refusal):
            asked(*handed)

    def test_no_motions(self):
        for at, thing in enumerate(NO_MOTIONS):
            with self.subTest(at=at):
                for asked in (back, kind_of, order_of, center, axis):
                    self.assert_refuses(BadMotion, asked, thing)
                self.assert_refuses(BadMotion, led, thing, ORIGIN)
                self.assert_refuses(BadMotion, then, thing, QUARTER)
                self.assert_refuses(BadMotion, then, QUARTER, thing)
                self.assert_refuses(BadMotion, then, thing, thing)

    def test_no_points(self):
        for at, thing in enumerate(NO_POINTS):
            with self.subTest(at=at):
                self.assert_refuses(BadPoint, led, QUARTER, thing)
                self.assert_refuses(BadPoint, shifting, thing, ORIGIN)
                self.assert_refuses(BadPoint, shifting, ORIGIN, thing)
                self.assert_refuses(BadPoint, turning, thing, (3, 4, 5))
                self.assert_refuses(BadPoint, turning, ORIGIN, thing)
                for place in range(4):
                    handed = [(0, 0, 1), (1, 0, 1), (0, 0, 1), (0, 1, 1)]
                    handed[place] = thing
                    self.assert_refuses(BadPoint, leading, *handed)

    def test_motions_are_looked_at_ahead_of_points(self):
        for thing in NO_POINTS:
            self.assert_refuses(BadMotion, led, ((2, 0, 1), ORIGIN, 0), thing)

    def test_points_are_looked_at_ahead_of_the_rest(self):
        for thing in NO_POINTS:
            self.assert_refuses(BadPoint, turning, thing, (2, 0, 1))
            self.assert_refuses(BadPoint, leading, ORIGIN, ORIGIN, ORIGIN, thing)
            self.assert_refuses(BadPoint, leading, ORIGIN, (1, 0, 1), thing, (5, 0, 1))

    def test_what_is_handed_in_stays(self):
        for thing in ([(1, 0, 1), (0, 0, 1), 0], ([1, 0, 1], [0, 0, 1], [0]), {0: [1]}):
            before = copy.deepcopy(thing)
            self.assertIs(is_motion(thing), False)
            for asked in (back, kind_of, order_of, center, axis):
                self.assert_refuses(BadMotion, asked, thing)
            self.assert_refuses(BadMotion, then, thing, thing)
            self.assert_refuses(BadMotion, led, thing, thing)
            self.assert_refuses(BadPoint, led, QUARTER, thing)
            self.assert_refuses(BadPoint, shifting, thing, thing)
            self.assert_refuses(BadPoint, turning, thing, thing)
            self.assert_refuses(BadPoint, leading, thing, thing, thing, thing)
            self.assertEqual(thing, before)


if __name__ == "__main__":
    unittest.main()
