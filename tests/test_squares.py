import inspect
import unittest
from fractions import Fraction
from itertools import permutations, product
from math import factorial, isqrt

from laidover.errors import BadPairs
from laidover.heaps import heap, moved
from laidover.motions import is_motion, led
from laidover.points import is_point
from laidover.squares import (
    all_orders, apart, cost, cost_behind, is_less, nearest_shift, nearest_turn, paired, turn_motion,
)
from tests.samples import (
    FAR_OFF, FEW_MOTIONS, GRID, HEAPS, MOTIONS, NO_FLIPS, NO_PARTNERS, PARTNERS, POINTS, RING, ROW, SLANTED,
    SMALL_HEAPS, SQUARE, TURNS, TWO, UNEVEN, WITH_SHARES, as_share, model_cost, model_gap, model_led, parts, standing,
)

ORIGIN = (0, 0, 1)
ONE = (1, 0, 1)

# Turns all round, by the well-known way to make sides of right corners.
MANY_TURNS = TURNS + [
    (a * a - b * b, 2 * a * b, a * a + b * b) for a, b in ((9, 2), (2, 9), (-9, 2), (-2, 9), (20, 1), (1, 20), (8, 5))
]


def model_mean(points):
    x = sum(parts(p)[0] for p in points) / Fraction(len(points))
    y = sum(parts(p)[1] for p in points) / Fraction(len(points))
    return x, y


def model_turn(one, other, flip):
    """(s, t) and the sum as the document tells them, in Fractions."""
    (ax, ay), (bx, by) = model_mean(one), model_mean(other)
    firsts = [(x - ax, (y - ay) * (-1 if flip else 1)) for x, y in map(parts, one)]
    seconds = [(x - bx, y - by) for x, y in map(parts, other)]
    s = sum(x * x + y * y for x, y in firsts + seconds)
    real = sum(u * x + v * y for (x, y), (u, v) in zip(firsts, seconds))
    across = sum(v * x - u * y for (x, y), (u, v) in zip(firsts, seconds))
    return s, real * real + across * across, (real, across)


def model_behind(turn, flip, one, other):
    """The cost behind this turn and flip and the nearest shift, and that motion."""
    there = [model_led((turn, ORIGIN, flip), p) for p in one]
    (ax, ay), (bx, by) = model_mean([standing(*p) for p in there]), model_mean(other)
    motion = (turn, standing(bx - ax, by - ay), flip)
    return model_cost([standing(*model_led(motion, p)) for p in one], other), motion


def is_square(number):
    top, below = number.numerator, number.denominator
    return isqrt(top) ** 2 == top and isqrt(below) ** 2 == below


def costs(s, t, told):
    """Whether s less twice the root of t is just what is told."""
    return s >= told and (s - told) ** 2 == 4 * t


class TestCost(unittest.TestCase):
    def test_by_hand(self):
        self.assertEqual(cost([ORIGIN], [(3, 4, 1)]), (25, 1))
        self.assertEqual(cost([ORIGIN, ONE], [ONE, ORIGIN]), (2, 1))
        self.assertEqual(cost([ORIGIN, ORIGIN], [(1, 0, 2), (0, 1, 3)]), (13, 36))
        self.assertEqual(cost([(1, 1, 2), (1, 1, 2)], [(1, 1, 2), (1, 1, 2)]), (0, 1))

    def test_as_the_model_tells(self):
        for one, other in PARTNERS:
            self.assertEqual(cost(one, other), as_share(model_cost(one, other)))
            self.assertEqual(cost(other, one), cost(one, other))

    def test_nought_just_of_the_same_lists(self):
        for one, other in PARTNERS:
            self.assertEqual(cost(one, list(one)), (0, 1))
            self.assertEqual(cost(one, other) == (0, 1), one == other)

    def test_one_to_fourteen_points(self):
        for many in range(1, 15):
            self.assertEqual(cost([ORIGIN] * many, [ONE] * many), (many, 1))


class TestCostBehind(unittest.TestCase):
    def test_by_hand(self):
        quarter = ((0, 1, 1), ORIGIN, 0)
        self.assertEqual(cost_behind(quarter, [ONE, ORIGIN], [(0, 1, 1), ORIGIN]), (0, 1))
        self.assertEqual(cost_behind(quarter, [(0, 1, 1), ORIGIN], [ONE, ORIGIN]), (4, 1))
        self.assertEqual(cost_behind(((1, 0, 1), (1, 1, 2), 1), [(0, 1, 1)], [ORIGIN]), (1, 2))

    def test_it_is_the_first_list_that_is_moved(self):
        for motion in FEW_MOTIONS:
            for one, other in PARTNERS[::3]:
                there = [led(motion, p) for p in one]
                self.assertEqual(cost_behind(motion, one, other), cost(there, other))
                self.assertEqual(cost_behind(motion, one, there), (0, 1))

    def test_as_the_model_tells(self):
        for motion in FEW_MOTIONS[::3]:
            for one, other in PARTNERS:
                there = [standing(*model_led(motion, p)) for p in one]
                self.assertEqual(cost_behind(motion, one, other), as_share(model_cost(there, other)))


class TestNearestShift(unittest.TestCase):
    def test_by_hand(self):
        self.assertEqual(nearest_shift([ORIGIN], [(3, -4, 5)]), ((3, -4, 5), (0, 1)))
        self.assertEqual(nearest_shift([ORIGIN, (2, 0, 1)], [ORIGIN, (0, 2, 1)]), ((-1, 1, 1), (4, 1)))
        self.assertEqual(nearest_shift([ORIGIN, ORIGIN], [ONE, (0, 1, 1)]), ((1, 1, 2), (1, 1)))

    def test_from_mean_to_mean(self):
        for one, other in PARTNERS:
            told = nearest_shift(one, other)
            self.assertIs(type(told), tuple)
            shift, least = told
            self.assertTrue(is_point(shift))
            (ax, ay), (bx, by) = model_mean(one), model_mean(other)
            self.assertEqual(shift, standing(bx - ax, by - ay))
            self.assertEqual(least, cost_behind(((1, 0, 1), shift, 0), one, other))

    def test_no_other_shift_costs_less(self):
        nearby = [Fraction(n, 7) for n in (-70, -2, -1, 0, 1, 2, 70)]
        for one, other in PARTNERS:
            shift, least = nearest_shift(one, other)
            x, y = parts(shift)
            for dx, dy in product(nearby, nearby):
                tried = ((1, 0, 1), standing(x + dx, y + dy), 0)
                told = Fraction(*cost_behind(tried, one, other))
                self.assertEqual(told, Fraction(*least) + len(one) * (dx * dx + dy * dy))
            for p in POINTS:
                self.assertGreaterEqual(Fraction(*cost_behind(((1, 0, 1), p, 0), one, other)), Fraction(*least))

    def test_lists_shifted_cost_nothing(self):
        for one, other in PARTNERS:
            for p in POINTS:
                there = [led(((1, 0, 1), p, 0), q) for q in one]
                self.assertEqual(nearest_shift(one, there), (p, (0, 1)))


class TestNearestTurn(unittest.TestCase):
    def test_by_hand(self):
        self.assertEqual(nearest_turn([ORIGIN, (2, 0, 1)], [ORIGIN, (0, 2, 1)]), ((4, 1), (4, 1)))
        self.assertEqual(nearest_turn([ORIGIN, (2, 0, 1)], [ORIGIN, (2, 2, 1)]), ((6, 1), (8, 1)))
        self.assertEqual(nearest_turn([ORIGIN], [(3, -4, 5)]), ((0, 1), (0, 1)))
        self.assertEqual(nearest_turn([ORIGIN], [(3, -4, 5)], flip=1), ((0, 1), (0, 1)))

    def test_as_the_model_tells(self):
        for one, other in PARTNERS:
            for flip in (0, 1):
                told = nearest_turn(one, other, flip=flip)
                self.assertIs(type(told), tuple)
                s, t, total = model_turn(one, other, flip)
                self.assertEqual(told, (as_share(s), as_share(t)))

    def test_flip_left_out(self):
        for one, other in PARTNERS:
            self.assertEqual(nearest_turn(one, other), nearest_turn(one, other, flip=0))
            self.assertEqual(turn_motion(one, other), turn_motion(one, other, flip=0))

    def test_lists_moved_cost_nothing(self):
        for motion in MOTIONS[::5]:
            for one, other in PARTNERS[::2]:
                there = [led(motion, p) for p in one]
                s, t = nearest_turn(one, there, flip=motion[2])
                self.assertTrue(costs(Fraction(*s), Fraction(*t), 0))

    def test_the_wrong_flip_costs_more(self):
        for motion in MOTIONS[::5]:
            s, t = nearest_turn(UNEVEN, [led(motion, p) for p in UNEVEN], flip=1 - motion[2])
            self.assertGreater(Fraction(*s) ** 2, 4 * Fraction(*t))

    def test_no_turn_with_its_nearest_shift_costs_less(self):
        for one, other in PARTNERS:
            for flip in (0, 1):
                s, t = [Fraction(*part) for part in nearest_turn(one, other, flip=flip)]
                self.assertGreaterEqual(s * s, 4 * t)
                for turn in MANY_TURNS:
                    told, motion = model_behind(turn, flip, one, other)
                    self.assertEqual(cost_behind(motion, one, other), as_share(told))
                    self.assertTrue(s <= told or (s - told) ** 2 <= 4 * t)

    def test_it_is_met_as_near_as_one_likes(self):
        # The turn nearest to the best one among very many costs hardly more.
        turns = [(a * a - b * b, 2 * a * b, a * a + b * b) for a in range(-20, 21) for b in range(1, 21)]
        for one, other in ((RING[:4], SLANTED), (TWO, [ORIGIN, ONE]), (ROW, UNEVEN)):
            for flip in (0, 1):
                s, t = [Fraction(*part) for part in nearest_turn(one, other, flip=flip)]
                told = min(model_behind(standing(Fraction(x, w), Fraction(y, w)), flip, one, other)[0]
                           for x, y, w in turns)
                least = s - 2 * Fraction(isqrt(int(t * 10 ** 20)), 10 ** 10)
                self.assertLess(told - least, Fraction(1, 20))

    def test_flip_is_handed_in_by_its_name(self):
        for asked in (nearest_turn, turn_motion):
            with self.assertRaises(TypeError):
                asked(SQUARE, SQUARE, 0)
            flip = inspect.signature(asked).parameters["flip"]
            self.assertEqual((flip.kind, flip.default), (flip.KEYWORD_ONLY, 0))


class TestTurnMotion(unittest.TestCase):
    def test_by_hand(self):
        self.assertEqual(turn_motion([ORIGIN, (2, 0, 1)], [ORIGIN, (0, 2, 1)]), ((0, 1, 1), ORIGIN, 0))
        self.assertEqual(turn_motion([ORIGIN, (2, 0, 1)], [ONE, (1, 2, 1)], flip=1), ((0, 1, 1), ONE, 1))
        self.assertEqual(turn_motion([ORIGIN, (5, 0, 1)], [ORIGIN, (3, 4, 1)]), ((3, 4, 5), ORIGIN, 0))

    def test_none_where_the_turn_is_not_one_of_shares(self):
        for flip in (0, 1):
            self.assertIsNone(turn_motion([ORIGIN, ONE], [ORIGIN, (1, 1, 1)], flip=flip))
            self.assertIsNone(turn_motion([ORIGIN, (1, 0, 3)], [ORIGIN, (1, 2, 7)], flip=flip))

    def test_just_that_cost_or_none(self):
        met = {True: 0, False: 0}
        for one, other in PARTNERS:
            for flip in (0, 1):
                s, t, total = model_turn(one, other, flip)
                motion = turn_motion(one, other, flip=flip)
                met[motion is None] += 1
                self.assertEqual(motion is None, not is_square(t))
                if motion is not None:
                    self.assertTrue(is_motion(motion))
                    self.assertEqual(motion[2], flip)
                    self.assertTrue(costs(s, t, Fraction(*cost_behind(motion, one, other))))
        self.assertGreater(min(met.values()), 5)

    def test_the_sum_nought(self):
        there = [(1, 0, 1), (0, 1, 1), (-1, 0, 1), (0, -1, 1)]
        for one, other in (
            ([ORIGIN], [(3, -4, 5)]), ([ORIGIN, ORIGIN], [ONE, (0, 1, 1)]), ([ONE, ORIGIN, (5, 5, 1)], [ONE, ONE, ONE]),
            (there, [ONE, (-1, 0, 1), ONE, (-1, 0, 1)]),
        ):
            for flip in (0, 1):
                s, t = nearest_turn(one, other, flip=flip)
                self.assertEqual(t, (0, 1))
                told, motion = model_behind((1, 0, 1), flip, one, other)
                self.assertEqual(turn_motion(one, other, flip=flip), motion)
                self.assertEqual(motion[0], (1, 0, 1))
                self.assertEqual(cost_behind(motion, one, other), s)

    def test_the_sum_nought_with_one_flip_alone(self):
        round_about = [(1, 0, 1), (0, 1, 1), (-1, 0, 1), (0, -1, 1)]
        other_way = [(1, 0, 1), (0, -1, 1), (-1, 0, 1), (0, 1, 1)]
        self.assertEqual(nearest_turn(round_about, other_way), ((8, 1), (0, 1)))
        self.assertEqual(turn_motion(round_about, other_way), ((1, 0, 1), ORIGIN, 0))
        self.assertEqual(nearest_turn(round_about, other_way, flip=1), ((8, 1), (16, 1)))

    def test_lists_moved_are_led_there(self):
        for motion in MOTIONS[::3]:
            for one in (UNEVEN, SLANTED, WITH_SHARES, FAR_OFF, TWO):
                there = [led(motion, p) for p in one]
                self.assertEqual(turn_motion(one, there, flip=motion[2]), motion)


class TestIsLess(unittest.TestCase):
    @staticmethod
    def model_worth(pair):
        """What s less twice the root of t is, to very many places."""
        (s, t) = [Fraction(*part) for part in pair]
        return s - 2 * Fraction(isqrt(t.numerator * 10 ** 400 // t.denominator), 10 ** 200)

    def assert_less(self, one, other, told):
        self.assertIs(is_less(one, other), told)

    def test_whole_roots(self):
        worths = [((a, 1), (b * b, 1)) for a in range(-8, 9) for b in range(6)]
        worths += [as_shares(Fraction(a, 6), Fraction(b * b, 9)) for a in range(-9, 10, 2) for b in range(5)]
        for one, other in product(worths, worths):
            (s, t), (u, v) = [[Fraction(*part) for part in pair] for pair in (one, other)]
            here = s - 2 * Fraction(isqrt(t.numerator), isqrt(t.denominator))
            there = u - 2 * Fraction(isqrt(v.numerator), isqrt(v.denominator))
            self.assert_less(one, other, here < there)

    def test_by_hand_with_roots_that_are_no_shares(self):
        # 3 - 2 root 2 is 0.17.., 4 - 2 root 3 is 0.53.., 5 - 2 root 6 is 0.10.., 0 - 2 root 2 is -2.82..
        worths = [((0, 1), (2, 1)), ((0, 1), (0, 1)), ((5, 1), (6, 1)), ((3, 1), (2, 1)), ((4, 1), (3, 1))]
        for at, one in enumerate(worths):
            for to, other in enumerate(worths):
                self.assert_less(one, other, at < to)

    def test_roots_that_are_no_shares(self):
        tops = [Fraction(n, d) for n in (-7, -1, 0, 2, 5, 11) for d in (1, 3, 4)]
        squares = [Fraction(n, d) for n in (0, 2, 3, 5, 8, 12, 30) for d in (1, 7)]
        worths = [as_shares(s, t) for s in tops for t in squares]
        for one, other in product(worths[::2], worths):
            gap = self.model_worth(other) - self.model_worth(one)
            self.assertTrue(abs(gap) > Fraction(1, 10 ** 100) or one == other)
            self.assert_less(one, other, gap > Fraction(1, 10 ** 100))

    def test_hardly_less(self):
        for many in (10 ** 10, 10 ** 30 + 7):
            near = ((2 * many, 1), (many * many - 1, 1))
            self.assert_less(((0, 1), (0, 1)), near, True)
            self.assert_less(near, ((0, 1), (0, 1)), False)
            self.assert_less(((2 * many, 1), (many * many + 1, 1)), ((0, 1), (0, 1)), True)
            self.assert_less(((0, 1), (0, 1)), ((2 * many, 1), (many * many + 1, 1)), False)
            self.assert_less(((0, 1), (2, 1)), ((1, many), (2, 1)), True)
            self.assert_less(((1, many), (2, 1)), ((0, 1), (2, 1)), False)
            self.assert_less(((0, 1), (many + 1, many)), ((0, 1), (1, 1)), True)

    def test_the_same(self):
        for s in (-5, 0, 1, Fraction(7, 3)):
            for t in (0, 1, 2, Fraction(5, 7)):
                self.assert_less(as_shares(s, t), as_shares(s, t), False)
        # Both are 1, both are 1, both are -2/3.
        for one, other in ((((7, 1), (9, 1)), ((1, 1), (0, 1))), (((9, 1), (16, 1)), ((3, 1), (1, 1))),
                           (((1, 3), (1, 4)), ((-2, 3), (0, 1)))):
            self.assert_less(one, other, False)
            self.assert_less(other, one, False)

    def test_never_both_ways(self):
        told = [nearest_turn(one, other, flip=flip) for one, other in PARTNERS for flip in (0, 1)]
        told += [as_shares(Fraction(a, 2), Fraction(b, 3)) for a in range(-4, 5) for b in range(5)]
        for one, other in product(told, told):
            if one == other:
                self.assert_less(one, other, False)
            else:
                self.assertFalse(is_less(one, other) and is_less(other, one))

    def test_one_less_than_another_less_than_a_third(self):
        told = [as_shares(Fraction(a, 2), Fraction(b)) for a in range(-3, 4) for b in range(4)]
        for one, other, third in product(told, told, told):
            if is_less(one, other) and is_less(other, third):
                self.assert_less(one, third, True)

    def test_nearest_turns(self):
        self.assert_less(nearest_turn(UNEVEN, UNEVEN), nearest_turn(UNEVEN, UNEVEN, flip=1), True)
        self.assert_less(nearest_turn(UNEVEN, UNEVEN, flip=1), nearest_turn(UNEVEN, UNEVEN), False)


def as_shares(s, t):
    return (as_share(Fraction(s)), as_share(Fraction(t)))


class TestPaired(unittest.TestCase):
    LISTS = [(one[:many], other[:many]) for one, other in PARTNERS for many in range(1, 7) if len(one) >= many]

    def slow_paired(self, one, other):
        """Of all orders, from the first on, the one whose nearest shift costs least."""
        best = None
        for order in permutations(range(len(one))):
            shift, told = nearest_shift(one, [other[at] for at in order])
            if best is None or Fraction(*told) < Fraction(*best[2]):
                best = (order, shift, told)
        return best

    def test_by_hand(self):
        self.assertEqual(paired([ORIGIN], [(3, -4, 5)]), ((0,), (3, -4, 5), (0, 1)))
        self.assertEqual(paired([ORIGIN, (2, 0, 1)], [(7, 1, 1), (5, 1, 1)]), ((1, 0), (5, 1, 1), (0, 1)))
        self.assertEqual(paired(ROW, [(2, 0, 1), ORIGIN, ONE]), ((1, 2, 0), ORIGIN, (0, 1)))

    def test_for_each_of_the_first_list_its_partner(self):
        one = [(0, 0, 1), (10, 0, 1), (0, 10, 1)]
        other = [one[2], one[0], one[1]]
        self.assertEqual(paired(one, other), ((1, 2, 0), ORIGIN, (0, 1)))

    def test_against_all_orders(self):
        for one, other in self.LISTS:
            told = paired(one, other)
            self.assertEqual((type(told), type(told[0])), (tuple, tuple))
            self.assertEqual(told, self.slow_paired(one, other))

    def test_the_first_of_several(self):
        self.assertEqual(paired([ORIGIN, ORIGIN], [ONE, (0, 1, 1)])[0], (0, 1))
        self.assertEqual(paired([ORIGIN] * 6, [ONE] * 6), ((0, 1, 2, 3, 4, 5), ONE, (0, 1)))
        self.assertEqual(paired([(1, 0, 1), (-1, 0, 1)], [(0, 1, 1), (0, -1, 1)])[0], (0, 1))
        self.assertEqual(paired([(2, 0, 1), ORIGIN, ORIGIN], [ORIGIN, ORIGIN, (2, 0, 1)])[0], (2, 0, 1))

    def test_up_to_six(self):
        for many in range(1, 7):
            self.assertEqual(paired(GRID[:many], GRID[:many]), (tuple(range(many)), ORIGIN, (0, 1)))
        for many in range(7, 15):
            with self.assertRaises(BadPairs):
                paired(GRID[:many], GRID[:many])

    def test_orders_rise(self):
        for many in range(7):
            self.assertEqual(all_orders(many), list(permutations(range(many))))
            self.assertEqual(len(all_orders(many)), factorial(many))


class TestApart(unittest.TestCase):
    def test_by_hand(self):
        self.assertEqual(apart(TWO, [ORIGIN, (2, 1, 1)]), (1, 1))
        self.assertEqual(apart(SQUARE, SQUARE + [(5, 0, 1)]), (16, 1))
        self.assertEqual(apart(SQUARE + [(5, 0, 1)], SQUARE), (16, 1))
        self.assertEqual(apart([ORIGIN, (1, 0, 2)], [ORIGIN, (1, 0, 3)]), (1, 36))

    def test_as_the_model_tells(self):
        for one, other in product(HEAPS, HEAPS):
            gaps = [min(model_gap(p, q) for q in other) for p in one]
            gaps += [min(model_gap(p, q) for p in one) for q in other]
            self.assertEqual(apart(one, other), as_share(max(gaps)))

    def test_both_ways_as_far(self):
        for one, other in product(HEAPS, HEAPS):
            self.assertEqual(apart(one, other), apart(other, one))

    def test_nought_just_of_the_same_points(self):
        for one, other in product(HEAPS, HEAPS):
            self.assertEqual(apart(one, other) == (0, 1), heap(one) == heap(other))
            self.assertEqual(apart(one, one[::-1]), (0, 1))
        self.assertNotEqual(apart(SQUARE, SQUARE[:3]), (0, 1))
        self.assertNotEqual(apart(SQUARE[:3], SQUARE), (0, 1))

    def test_moved_together_they_are_as_far_apart(self):
        for motion in FEW_MOTIONS[::3]:
            for one, other in product(SMALL_HEAPS[::2], SMALL_HEAPS[::3]):
                self.assertEqual(apart(moved(motion, one), moved(motion, other)), apart(one, other))


class TestRefusals(unittest.TestCase):
    ASKED = [cost, nearest_shift, nearest_turn, turn_motion, paired]

    def test_no_partners(self):
        for at, thing in enumerate(NO_PARTNERS):
            with self.subTest(at=at):
                for good in ([ORIGIN], [ORIGIN, ONE]):
                    for asked in self.ASKED:
                        for handed in ((thing, good), (good, thing), (thing, thing)):
                            with self.assertRaises(BadPairs):
                                asked(*handed)

    def test_not_as_many(self):
        for here, there in product(range(1, 15), range(1, 15)):
            if here != there:
                for asked in self.ASKED:
                    with self.assertRaises(BadPairs):
                        asked(GRID[:here], GRID[:there])
                with self.assertRaises(BadPairs):
                    cost_behind(MOTIONS[0], GRID[:here], GRID[:there])

    def test_flips(self):
        for asked in (nearest_turn, turn_motion):
            for flip in NO_FLIPS:
                for handed in ((SQUARE, SQUARE), ([ORIGIN], [ONE]), (None, SQUARE)):
                    with self.assertRaises(BadPairs):
                        asked(*handed, flip=flip)


if __name__ == "__main__":
    unittest.main()
