import unittest
from functools import cache
from itertools import combinations, permutations

from laidover.copies import apart_copies, copies, covering, holds, pairs_at, placings
from laidover.heaps import gaps, heap, moved
from laidover.motions import leading
from laidover.whole import laying, symmetries
from tests.samples import (
    FEW_MOTIONS, GRID, HEAPS, NO_WHOLE_NUMBERS, PINWHEEL, RECTANGLE, RING, ROW, SLANTED, SMALL_HEAPS,
    SQUARE, TILTED_SQUARE, TWO, UNEVEN, WITH_SHARES, by_parts, model_gap, model_led, parts, slow_motions,
)

STAY = ((1, 0, 1), (0, 0, 1), 0)
SIDE = [(5, 5, 1), (5, 6, 1)]
CORNER = [(0, 0, 1), (1, 0, 1), (0, 1, 1)]

# Patterns that stand in heaps often, once and not at all, some behind turns of shares.
PLACES = [(tuple(pattern), tuple(points)) for pattern, points in [
    *((pattern, points) for pattern in SMALL_HEAPS for points in SMALL_HEAPS),
    *((pattern, points) for pattern in (SIDE, CORNER, SQUARE, ROW, TILTED_SQUARE, RECTANGLE, TWO, UNEVEN)
      for points in (GRID, PINWHEEL, RING, GRID[:9])),
    *((moved(((3, 4, 5), (1, -1, 2), flip), points)[1:], points)
      for points in (SQUARE, SLANTED, WITH_SHARES, PINWHEEL) for flip in (0, 1)),
]]


@cache
def slow_placings(pattern, points):
    """All motions that lead two points of the pattern to two of the heap, and all of it."""
    slow = slow_motions(pattern, points)
    return sorted(motion for motion in slow if slow[motion] == len(pattern))


def slow_copies(pattern, points):
    """All parts of the heap, one by one, to which some motion leads the pattern."""
    here = {parts(p): p for p in points}
    found = {tuple(by_parts([here[model_led(motion, p)] for p in pattern]))
             for motion in slow_placings(pattern, points)}
    return sorted(found, key=lambda part: [parts(p) for p in part])


class TestPlacings(unittest.TestCase):
    def test_by_hand(self):
        self.assertEqual(placings(TWO, [(0, 0, 1), (2, 0, 1), (9, 9, 1)]), [
            ((-1, 0, 1), (2, 0, 1), 0), ((-1, 0, 1), (2, 0, 1), 1), ((1, 0, 1), (0, 0, 1), 0), ((1, 0, 1), (0, 0, 1), 1),
        ])
        self.assertEqual(placings(CORNER, [(9, 9, 1), (0, 0, 1), (3, 4, 5), (-4, 3, 5)]), [
            ((-4, 3, 5), (0, 0, 1), 1), ((3, 4, 5), (0, 0, 1), 0),
        ])
        self.assertEqual(len(placings(SIDE, GRID)), 4 * 20)
        self.assertEqual(len(placings(SQUARE, GRID)), 8 * 7)

    def test_as_a_slow_search_tells(self):
        for pattern, points in PLACES:
            told = placings(pattern, points)
            self.assertIs(type(told), list)
            self.assertEqual(told, slow_placings(pattern, points))

    def test_they_rise_each_once(self):
        for pattern, points in PLACES:
            told = placings(pattern, points)
            self.assertEqual(told, sorted(set(told)))

    def test_all_leading_two_points(self):
        for a, b in ((CORNER[0], CORNER[1]), (CORNER[1], CORNER[2])):
            slow = [motion for c, d in permutations(GRID, 2) if model_gap(a, b) == model_gap(c, d)
                    for motion in leading(a, b, c, d)
                    if all(model_led(motion, p) in map(parts, GRID) for p in CORNER)]
            self.assertEqual(placings(CORNER, GRID), sorted(slow))

    def test_the_heap_itself(self):
        for points in HEAPS:
            self.assertEqual(placings(points, points), symmetries(points))

    def test_a_heap_as_great(self):
        for points in HEAPS:
            for motion in FEW_MOTIONS[:3]:
                other = moved(motion, points)
                self.assertEqual(placings(points, other), laying(points, other))

    def test_a_greater_pattern(self):
        for points in HEAPS:
            if len(points) > 2:
                self.assertEqual(placings(points, points[1:]), [])
        self.assertEqual(placings(GRID, SQUARE), [])


class TestCopies(unittest.TestCase):
    def test_by_hand(self):
        self.assertEqual(copies(TWO, [(2, 2, 1), (0, 0, 1), (2, 0, 1), (0, 2, 1)]), [
            ((0, 0, 1), (0, 2, 1)), ((0, 0, 1), (2, 0, 1)), ((0, 2, 1), (2, 2, 1)), ((2, 0, 1), (2, 2, 1)),
        ])
        self.assertEqual(copies(CORNER, SQUARE), [
            ((0, 0, 1), (0, 1, 1), (1, 0, 1)), ((0, 0, 1), (0, 1, 1), (1, 1, 1)),
            ((0, 0, 1), (1, 0, 1), (1, 1, 1)), ((0, 1, 1), (1, 0, 1), (1, 1, 1)),
        ])
        self.assertEqual(copies(SQUARE, RECTANGLE), [])

    def test_in_order_as_points_not_as_tuples(self):
        points = [(-1, 0, 2), (0, 0, 1), (-2, 0, 1), (-3, 0, 2)]
        pattern = [(0, 0, 1), (1, 0, 2)]
        self.assertEqual(copies(pattern, points), [((-2, 0, 1), (-3, 0, 2)), ((-1, 0, 2), (0, 0, 1))])
        points = [(1, 0, 3), (1, 0, 2), (4, 0, 3), (3, 0, 2)]
        self.assertEqual(copies([(0, 0, 1), (1, 0, 1)], points), [((1, 0, 3), (4, 0, 3)), ((1, 0, 2), (3, 0, 2))])

    def test_as_a_slow_search_tells(self):
        for pattern, points in PLACES:
            told = copies(pattern, points)
            self.assertIs(type(told), list)
            self.assertEqual(told, slow_copies(pattern, points))
            for part in told:
                self.assertIs(type(part), tuple)
                self.assertEqual(part, heap(part))

    def test_each_part_once(self):
        for pattern, points in PLACES:
            told = copies(pattern, points)
            self.assertEqual(len(set(told)), len(told))
            self.assertEqual(len(placings(pattern, points)), len(told) * len(symmetries(pattern)))

    def test_just_the_parts_alike(self):
        for pattern in (CORNER, ROW, SQUARE):
            for points in (GRID[:9], PINWHEEL):
                parts_alike = [part for part in combinations(by_parts(points), len(pattern)) if laying(pattern, part)]
                self.assertEqual(copies(pattern, points), parts_alike)

    def test_the_heap_itself(self):
        for points in HEAPS:
            self.assertEqual(copies(points, points), [heap(points)])

    def test_a_greater_pattern(self):
        self.assertEqual(copies(GRID, GRID[1:]), [])
        self.assertEqual(copies(ROW, TWO), [])


class TestApartCopies(unittest.TestCase):
    def test_by_hand(self):
        line = [(x, 0, 1) for x in range(7)]
        self.assertEqual(apart_copies(SIDE, line), [
            ((0, 0, 1), (1, 0, 1)), ((2, 0, 1), (3, 0, 1)), ((4, 0, 1), (5, 0, 1)),
        ])
        self.assertEqual(apart_copies(CORNER, SQUARE), [((0, 0, 1), (0, 1, 1), (1, 0, 1))])
        self.assertEqual(apart_copies(SQUARE, RECTANGLE), [])

    def test_the_first_ones_though_others_would_be_more(self):
        points = [(0, 0, 1), (0, 1, 1), (0, -1, 1), (1, 0, 1), (-1, 5, 1), (-1, 6, 1)]
        self.assertEqual(apart_copies(SIDE, points), [((-1, 5, 1), (-1, 6, 1)), ((0, -1, 1), (0, 0, 1))])
        bent = [(1, 0, 1), (0, 0, 1), (0, 1, 1), (0, 2, 1)]
        self.assertEqual(apart_copies(SIDE, bent), [((0, 0, 1), (0, 1, 1))])

    def test_one_by_one_in_the_order_of_the_copies(self):
        for pattern, points in PLACES:
            told = apart_copies(pattern, points)
            self.assertIs(type(told), list)
            taken, used = [], set()
            for part in slow_copies(pattern, points):
                if not used & set(part):
                    taken.append(part)
                    used |= set(part)
            self.assertEqual(told, taken)

    def test_the_heap_itself_and_a_greater_one(self):
        for points in HEAPS:
            self.assertEqual(apart_copies(points, points), [heap(points)])
        self.assertEqual(apart_copies(GRID, SQUARE), [])


class TestHoldsAndCovering(unittest.TestCase):
    def test_holds_by_hand(self):
        self.assertIs(holds(GRID, SQUARE), True)
        self.assertIs(holds(SQUARE, GRID), False)
        self.assertIs(holds(RECTANGLE, SQUARE), False)
        self.assertIs(holds(SQUARE, CORNER), True)
        self.assertIs(holds(CORNER, SQUARE), False)

    def test_holds_just_where_there_is_a_placing(self):
        for pattern, points in PLACES:
            self.assertIs(holds(points, pattern), slow_placings(pattern, points) != [])

    def test_covering_by_hand(self):
        self.assertEqual(covering(SIDE, [(5, 0, 1), (0, 0, 1), (1, 0, 1), (-9, 1, 2)]), [(-9, 1, 2), (5, 0, 1)])
        self.assertEqual(covering(SQUARE, GRID), [])
        self.assertEqual(covering(SQUARE, RECTANGLE), by_parts(RECTANGLE))

    def test_covering_in_order_as_points(self):
        points = [(1, 0, 2), (1, 0, 3), (-1, 0, 2), (-2, 0, 1)]
        self.assertEqual(covering(TWO, points), [(-2, 0, 1), (-1, 0, 2), (1, 0, 3), (1, 0, 2)])

    def test_covering_as_the_copies_tell(self):
        for pattern, points in PLACES:
            told = covering(pattern, points)
            self.assertIs(type(told), list)
            covered = {p for part in slow_copies(pattern, points) for p in part}
            self.assertEqual(told, by_parts(set(points) - covered))

    def test_not_just_the_points_of_apart_copies(self):
        line = [(x, 0, 1) for x in range(3)]
        self.assertEqual(apart_copies(SIDE, line), [((0, 0, 1), (1, 0, 1))])
        self.assertEqual(covering(SIDE, line), [])

    def test_the_heap_itself_and_a_greater_one(self):
        for points in HEAPS:
            self.assertIs(holds(points, points), True)
            self.assertEqual(covering(points, points), [])
            if len(points) > 2:
                self.assertIs(holds(points[1:], points), False)
                self.assertEqual(covering(points, points[1:]), by_parts(points[1:]))


class TestPairsAt(unittest.TestCase):
    def test_by_hand(self):
        self.assertEqual(pairs_at(SQUARE, (2, 1)), [((0, 0, 1), (1, 1, 1)), ((0, 1, 1), (1, 0, 1))])
        self.assertEqual(pairs_at(SQUARE, (1, 1)), [
            ((0, 0, 1), (0, 1, 1)), ((0, 0, 1), (1, 0, 1)), ((0, 1, 1), (1, 1, 1)), ((1, 0, 1), (1, 1, 1)),
        ])
        self.assertEqual(pairs_at([(1, 0, 2), (0, 0, 1), (0, 1, 2)], (1, 4)), [
            ((0, 0, 1), (0, 1, 2)), ((0, 0, 1), (1, 0, 2)),
        ])

    def test_in_order_as_points_not_as_tuples(self):
        points = [(1, 0, 2), (1, 0, 3), (3, 0, 2), (4, 0, 3)]
        self.assertEqual(pairs_at(points, (1, 1)), [((1, 0, 3), (4, 0, 3)), ((1, 0, 2), (3, 0, 2))])

    def test_at_squares_that_are_there(self):
        for points in HEAPS:
            for top, below in gaps(points):
                told = pairs_at(points, (top, below))
                self.assertIs(type(told), list)
                self.assertEqual(told, [
                    pair for pair in combinations(by_parts(points), 2) if model_gap(*pair) * below == top
                ])
                self.assertEqual({type(pair) for pair in told}, {tuple})

    def test_all_squares_tell_all_pairs_once(self):
        for points in HEAPS:
            told = [pair for square in gaps(points) for pair in pairs_at(points, square)]
            self.assertEqual(len(told), len(points) * (len(points) - 1) // 2)
            self.assertEqual(len(set(told)), len(told))

    def test_at_squares_that_are_not_there(self):
        for points in HEAPS:
            for square in ((0, 1), (-1, 1), (1, 10 ** 9 + 7), (10 ** 99, 1)):
                self.assertEqual(pairs_at(points, square), [])

    def test_no_share_is_no_square_that_is_there(self):
        for square in NO_WHOLE_NUMBERS + [1, (True, 1), (1, True), (True, True), (2, 2), (-1, -1), [1, 1], (1, 1, 1)]:
            self.assertEqual(pairs_at(SQUARE, square), [])


if __name__ == "__main__":
    unittest.main()
