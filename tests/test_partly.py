import inspect
import unittest

from laidover.errors import BadNumber
from laidover.heaps import moved
from laidover.motions import led, shifting
from laidover.partly import at_least, best_over, best_shift, common_part, laid, quarter_turns, shifts, strays
from laidover.points import difference, is_point
from laidover.whole import laying
from tests.samples import (
    EVEN_SIDED, FEW_MOTIONS, GRID, HEAPS, NO_WHOLE_NUMBERS, PINWHEEL, QUARTER_TURNS, RECTANGLE, RHOMBUS, RING, ROW,
    SLANTED, SMALL_HEAPS, SQUARE, TWO, UNEVEN, UNEVEN_ROW, WITH_SHARES, by_parts, model_led, parts, slow_motions,
)

ORIGIN = (0, 0, 1)
STAY = ((1, 0, 1), ORIGIN, 0)
NOT_AS_FAR = [(5, 5, 1), (5, 8, 1)]

# Heaps with parts in common but not whole, some behind turns of shares.
PAIRS = [(one, other) for one in SMALL_HEAPS for other in SMALL_HEAPS] + [
    (moved(((3, 4, 5), (1, -1, 2), flip), one)[1:], other)
    for one in (SQUARE, RECTANGLE, SLANTED, WITH_SHARES) for other in (SQUARE, RHOMBUS, SLANTED, WITH_SHARES)
    for flip in (0, 1)
] + [(PINWHEEL, GRID[:9]), (RING[:7], TWO + RING[5:9]), (GRID[:6], PINWHEEL)]


def slow_laid(motion, one, other):
    places = set(map(parts, other))
    return by_parts([p for p in one if model_led(motion, p) in places])


class TestLaidAndStrays(unittest.TestCase):
    def test_by_hand(self):
        right = ((1, 0, 1), (1, 0, 1), 0)
        self.assertEqual(laid(right, SQUARE, SQUARE), [(0, 0, 1), (0, 1, 1)])
        self.assertEqual(strays(right, SQUARE, SQUARE), ([(1, 0, 1), (1, 1, 1)], [(0, 0, 1), (0, 1, 1)]))
        self.assertEqual(laid(((3, 4, 5), ORIGIN, 0), [(5, 0, 1), (0, 0, 1), (1, 0, 1)], [(3, 4, 1), ORIGIN]),
                         [ORIGIN, (5, 0, 1)])
        self.assertEqual(strays(((3, 4, 5), ORIGIN, 0), [(5, 0, 1), (1, 0, 1)], [(3, 4, 1), ORIGIN]),
                         ([(1, 0, 1)], [ORIGIN]))

    def test_all_and_none(self):
        self.assertEqual(laid(STAY, SQUARE, SQUARE), by_parts(SQUARE))
        self.assertEqual(strays(STAY, SQUARE, SQUARE), ([], []))
        far = ((1, 0, 1), (100, 0, 1), 0)
        self.assertEqual(laid(far, SQUARE, RECTANGLE), [])
        self.assertEqual(strays(far, SQUARE, RECTANGLE), (by_parts(SQUARE), by_parts(RECTANGLE)))

    def test_as_the_model_tells(self):
        for motion in FEW_MOTIONS:
            for one, other in PAIRS[::3]:
                told, (lost, left) = laid(motion, one, other), strays(motion, one, other)
                self.assertEqual([type(told), type(lost), type(left)], [list] * 3)
                self.assertIs(type(strays(motion, one, other)), tuple)
                self.assertEqual(told, slow_laid(motion, one, other))
                self.assertEqual(lost, by_parts(set(one) - set(told)))
                self.assertEqual(left, by_parts(set(other) - {led(motion, p) for p in one}))

    def test_along_motions_that_lay_some(self):
        for one, other in PAIRS[::4]:
            for motion in at_least(one, other, many=2):
                self.assertEqual(laid(motion, one, other), slow_laid(motion, one, other))
                self.assertEqual(len(strays(motion, one, other)[0]), len(one) - len(laid(motion, one, other)))
                self.assertEqual(len(strays(motion, one, other)[1]), len(other) - len(laid(motion, one, other)))


class TestAtLeast(unittest.TestCase):
    def test_as_a_slow_search_tells(self):
        for one, other in PAIRS:
            slow = slow_motions(one, other)
            for many in range(2, 6):
                told = at_least(one, other, many=many)
                self.assertIs(type(told), list)
                self.assertEqual(told, sorted(motion for motion in slow if slow[motion] >= many))

    def test_more_are_at_least_fewer(self):
        three = at_least(SQUARE, SQUARE, many=3)
        self.assertEqual(three, laying(SQUARE, SQUARE))
        self.assertEqual(at_least(SQUARE, SQUARE, many=4), three)
        self.assertLess(set(three), set(at_least(SQUARE, SQUARE, many=2)))

    def test_all_points(self):
        for points in HEAPS:
            other = moved(((5, 12, 13), (1, -1, 2), 1), points)
            self.assertEqual(at_least(points, other, many=len(points)), laying(points, other))

    def test_more_than_there_are(self):
        for many in range(3, 15):
            self.assertEqual(at_least(TWO, GRID, many=many), [])
        self.assertEqual(at_least(ROW, ROW, many=14), [])

    def test_fourteen(self):
        self.assertEqual(at_least(GRID, GRID, many=14), [STAY])

    def test_other_numbers_are_refused(self):
        for many in NO_WHOLE_NUMBERS + [1, 0, -1, -2, 15, 16, 10 ** 30, (2, 1), [2], "2"]:
            with self.assertRaises(BadNumber):
                at_least(TWO, SQUARE, many=many)

    def test_many_is_handed_in_by_its_name(self):
        with self.assertRaises(TypeError):
            at_least(TWO, TWO, 2)
        with self.assertRaises(TypeError):
            at_least(TWO, TWO)
        many = inspect.signature(at_least).parameters["many"]
        self.assertEqual((many.kind, many.default), (many.KEYWORD_ONLY, many.empty))


class TestBestOver(unittest.TestCase):
    def assert_best(self, one, other, slow, flips):
        told = best_over(one, other, flips=flips)
        self.assertIs(type(told), tuple)
        kept = {motion: many for motion, many in slow.items() if flips or motion[2] == 0}
        if kept:
            most = max(kept.values())
            self.assertEqual(told, (most, min(motion for motion in kept if kept[motion] == most)))
        else:
            self.assertEqual(told, (1, shifting(by_parts(one)[0], by_parts(other)[0])))

    def test_as_a_slow_search_tells(self):
        for one, other in PAIRS:
            slow = slow_motions(one, other)
            self.assert_best(one, other, slow, True)
            self.assert_best(one, other, slow, False)
            self.assertEqual(best_over(one, other), best_over(one, other, flips=True))

    def test_by_hand(self):
        self.assertEqual(best_over(SQUARE, SQUARE), (4, ((-1, 0, 1), (1, 0, 1), 1)))
        self.assertEqual(best_over(SQUARE, SQUARE, flips=False), (4, ((-1, 0, 1), (1, 1, 1), 0)))
        self.assertEqual(best_over([ORIGIN, (5, 0, 1), (0, 1, 1)], [ORIGIN, (3, 4, 1), (-4, 3, 5)]),
                         (3, ((3, 4, 5), ORIGIN, 0)))

    def test_flips_lay_more(self):
        flipped = moved(((1, 0, 1), ORIGIN, 1), UNEVEN)
        self.assertEqual(best_over(UNEVEN, flipped), (3, ((1, 0, 1), ORIGIN, 1)))
        many, motion = best_over(UNEVEN, flipped, flips=False)
        self.assertEqual((many, motion[2]), (2, 0))

    def test_where_no_motion_lays_two(self):
        for flips in (True, False):
            self.assertEqual(best_over(TWO, NOT_AS_FAR, flips=flips), (1, ((1, 0, 1), (5, 5, 1), 0)))
            self.assertEqual(best_over(NOT_AS_FAR, TWO, flips=flips), (1, ((1, 0, 1), (-5, -5, 1), 0)))
            self.assertEqual(best_over(TWO[::-1], NOT_AS_FAR[::-1], flips=flips), (1, ((1, 0, 1), (5, 5, 1), 0)))
            self.assertEqual(best_over([(1, 0, 2), (1, 0, 3)], TWO, flips=flips), (1, ((1, 0, 1), (-1, 0, 3), 0)))

    def test_least_as_tuples_not_as_points(self):
        # As a point the turn (3, 4, 5) is ahead of (1, 0, 1); as a tuple it is not.
        one, other = [ORIGIN, (5, 0, 1)], [ORIGIN, (3, 4, 1), (5, 0, 1)]
        self.assertIn(((3, 4, 5), ORIGIN, 0), at_least(one, other, many=2))
        told = at_least(one, other, many=2)
        self.assertLess(told.index(STAY), told.index(((3, 4, 5), ORIGIN, 0)))
        self.assertEqual(best_over(one, other), (2, told[0]))

    def test_other_flips_are_refused(self):
        for flips in [1, 0, -1, 2] + [thing for thing in NO_WHOLE_NUMBERS if not isinstance(thing, bool)]:
            with self.assertRaises(BadNumber):
                best_over(TWO, SQUARE, flips=flips)

    def test_flips_are_handed_in_by_their_name(self):
        with self.assertRaises(TypeError):
            best_over(TWO, TWO, True)
        flips = inspect.signature(best_over).parameters["flips"]
        self.assertEqual((flips.kind, flips.default), (flips.KEYWORD_ONLY, True))


class TestCommonPart(unittest.TestCase):
    def test_by_hand(self):
        self.assertEqual(common_part(ROW, TWO), ([ORIGIN, (2, 0, 1)], [(2, 0, 1), ORIGIN]))
        self.assertEqual(common_part(TWO, NOT_AS_FAR), ([ORIGIN], [(5, 5, 1)]))
        self.assertEqual(common_part([(0, 1, 1), (5, 0, 1), ORIGIN], [ORIGIN, (-4, 3, 5), (3, 4, 1), (9, 9, 1)]),
                         ([ORIGIN, (0, 1, 1), (5, 0, 1)], [ORIGIN, (-4, 3, 5), (3, 4, 1)]))

    def test_what_the_best_motion_lays(self):
        for one, other in PAIRS:
            told = common_part(one, other)
            self.assertEqual([type(told), type(told[0]), type(told[1])], [tuple, list, list])
            many, motion = best_over(one, other)
            self.assertEqual(len(told[0]), many)
            self.assertEqual(told[0], laid(motion, one, other))
            self.assertEqual(told[1], [led(motion, p) for p in told[0]])
            self.assertLessEqual(set(told[1]), set(other))

    def test_with_flips(self):
        self.assertEqual(len(common_part(UNEVEN, moved(((3, 4, 5), (1, 0, 1), 1), UNEVEN))[0]), 3)


class TestShifts(unittest.TestCase):
    def test_by_hand(self):
        self.assertEqual(shifts(TWO, TWO), {ORIGIN: 2, (2, 0, 1): 1, (-2, 0, 1): 1})
        self.assertEqual(shifts(TWO, [(0, 0, 1), (1, 1, 2)]), {
            ORIGIN: 1, (1, 1, 2): 1, (-2, 0, 1): 1, (-3, 1, 2): 1,
        })
        self.assertEqual(best_shift(TWO, TWO), (2, ORIGIN))
        self.assertEqual(best_shift(TWO, ROW), (2, ORIGIN))
        self.assertEqual(best_shift(ROW, TWO), (2, ORIGIN))

    def test_the_first_such_shift(self):
        self.assertEqual(best_shift(TWO, NOT_AS_FAR), (1, (3, 5, 1)))
        self.assertEqual(best_shift([ORIGIN, (1, 0, 3)], [ORIGIN, (1, 0, 2)]), (1, (-1, 0, 3)))
        self.assertEqual(best_shift([ORIGIN, (1, 0, 1)], ROW), (2, ORIGIN))
        # As tuples (1, 0, 2) is ahead of (2, 0, 5); as points it is not.
        self.assertEqual(best_shift([ORIGIN, (0, 1, 1)], [(1, 0, 2), (1, 2, 2), (2, 0, 5), (2, 5, 5)]),
                         (2, (2, 0, 5)))

    def test_for_each_shift_that_lays_any(self):
        for one, other in PAIRS:
            told = shifts(one, other)
            self.assertIs(type(told), dict)
            self.assertEqual(set(told), {difference(q, p) for p in one for q in other})
            for shift, many in told.items():
                self.assertIs(is_point(shift), True)
                self.assertEqual(many, len(slow_laid(((1, 0, 1), shift, 0), one, other)))
            most = max(told.values())
            self.assertEqual(best_shift(one, other), (most, by_parts(s for s in told if told[s] == most)[0]))
            self.assertIs(type(best_shift(one, other)), tuple)


class TestQuarterTurns(unittest.TestCase):
    def test_by_hand(self):
        self.assertEqual(quarter_turns(TWO, TWO), [2, 1, 2, 1])
        self.assertEqual(quarter_turns(SQUARE, SQUARE), [4, 4, 4, 4])
        self.assertEqual(quarter_turns(TWO, [ORIGIN, (0, 2, 1)]), [1, 2, 1, 2])
        self.assertEqual(quarter_turns([ORIGIN, (2, 0, 1), (0, 1, 1)], [ORIGIN, (0, 2, 1), (-1, 0, 1)]), [1, 3, 1, 2])
        self.assertEqual(quarter_turns([ORIGIN, (2, 0, 1), (0, 1, 1)], [ORIGIN, (0, -2, 1), (1, 0, 1)]), [1, 2, 1, 3])

    def test_no_flips(self):
        flipped = moved(((1, 0, 1), ORIGIN, 1), UNEVEN)
        self.assertLess(max(quarter_turns(UNEVEN, flipped)), 3)

    def test_no_other_turns(self):
        self.assertEqual(quarter_turns(UNEVEN_ROW, [(x, 0, 1) for x in (0, 1, 10)]), [1, 1, 1, 1])

    def test_the_best_shift_behind_each_turn(self):
        for one, other in PAIRS:
            told = quarter_turns(one, other)
            self.assertIs(type(told), list)
            turned = [moved((turn, ORIGIN, 0), one) for turn in QUARTER_TURNS]
            self.assertEqual(told, [best_shift(behind, other)[0] for behind in turned])

    def test_as_a_slow_search_tells(self):
        for one, other in PAIRS[::3]:
            slow = slow_motions(one, other)
            for turn, many in zip(QUARTER_TURNS, quarter_turns(one, other)):
                counts = [slow[motion] for motion in slow if motion[0] == turn and motion[2] == 0]
                self.assertEqual(many, max(counts, default=1))


class TestEvenSides(unittest.TestCase):
    def test_one_over_the_other_and_back_are_as_good(self):
        for one, other in PAIRS:
            for flips in (True, False):
                self.assertEqual(best_over(one, other, flips=flips)[0], best_over(other, one, flips=flips)[0])
            self.assertEqual(best_shift(one, other)[0], best_shift(other, one)[0])
        self.assertEqual(best_over(EVEN_SIDED, EVEN_SIDED)[0], 3)


if __name__ == "__main__":
    unittest.main()
