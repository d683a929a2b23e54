import unittest
from fractions import Fraction
from itertools import combinations, permutations

from laidover.heaps import gaps, heap, is_heap, mean, moved, same_gaps, widest
from laidover.motions import led
from laidover.points import is_point
from tests.samples import (
    EVEN_SIDED, FEW_MOTIONS, GRID, HEAPS, MOTIONS, NO_HEAPS, RECTANGLE, RHOMBUS, SLANTED, SQUARE,
    TILTED_SQUARE, TWO, UNEVEN, WITH_SHARES, by_parts, model_gap, parts,
)

QUARTER = ((0, 1, 1), (0, 0, 1), 0)


class TestIsHeap(unittest.TestCase):
    def test_heaps(self):
        for points in HEAPS:
            self.assertIs(is_heap(list(points)), True)
            self.assertIs(is_heap(tuple(points)), True)

    def test_from_two_to_fourteen_points(self):
        row = [(x, -x, 1) for x in range(20)]
        for many in range(21):
            self.assertIs(is_heap(row[:many]), 2 <= many <= 14)
            self.assertIs(is_heap(tuple(row[:many])), 2 <= many <= 14)

    def test_no_heaps(self):
        for at, thing in enumerate(NO_HEAPS):
            with self.subTest(at=at):
                self.assertIs(is_heap(thing), False)

    def test_told_ones_are_heaps(self):
        for points in HEAPS:
            self.assertIs(is_heap(heap(points)), True)
            self.assertIs(is_heap(moved(QUARTER, points)), True)


class TestHeap(unittest.TestCase):
    def test_whole_ones_in_order(self):
        self.assertEqual(heap([(1, 1, 1), (0, 5, 1), (1, 0, 1)]), ((0, 5, 1), (1, 0, 1), (1, 1, 1)))
        self.assertEqual(heap(((2, 0, 1), (-10, 0, 1))), ((-10, 0, 1), (2, 0, 1)))

    def test_shares_in_order(self):
        self.assertEqual(heap([(1, 0, 2), (1, 0, 3), (-1, 0, 3), (-1, 0, 2)]),
                         ((-1, 0, 2), (-1, 0, 3), (1, 0, 3), (1, 0, 2)))
        self.assertEqual(heap([(3, 4, 6), (1, 1, 2), (1, 0, 1)]), ((1, 1, 2), (3, 4, 6), (1, 0, 1)))
        self.assertEqual(heap([(0, 1, 2), (0, 1, 3), (0, 0, 1)]), ((0, 0, 1), (0, 1, 3), (0, 1, 2)))

    def test_as_the_parts_tell(self):
        for points in HEAPS:
            told = heap(points)
            self.assertIs(type(told), tuple)
            self.assertEqual(told, tuple(by_parts(points)))

    def test_every_order_handed_in(self):
        for handed in permutations(WITH_SHARES):
            self.assertEqual(heap(handed), tuple(by_parts(WITH_SHARES)))
            self.assertEqual(heap(list(handed)), tuple(by_parts(WITH_SHARES)))


class TestMoved(unittest.TestCase):
    def test_by_hand(self):
        self.assertEqual(moved(QUARTER, [(0, 0, 1), (1, 0, 1), (0, 2, 1)]), ((-2, 0, 1), (0, 0, 1), (0, 1, 1)))
        self.assertEqual(moved(((3, 4, 5), (1, 0, 1), 0), [(0, 0, 1), (1, 0, 1)]), ((1, 0, 1), (8, 4, 5)))
        self.assertEqual(moved(((3, 4, 5), (0, 0, 1), 1), [(0, 5, 1), (5, 0, 1)]), ((3, 4, 1), (4, -3, 1)))

    def test_each_point_is_led(self):
        for motion in FEW_MOTIONS:
            for points in HEAPS:
                told = moved(motion, points)
                self.assertIs(type(told), tuple)
                self.assertEqual(told, tuple(by_parts([led(motion, p) for p in points])))


class TestMean(unittest.TestCase):
    def test_by_hand(self):
        self.assertEqual(mean(SQUARE), (1, 1, 2))
        self.assertEqual(mean([(0, 0, 1), (1, 0, 1), (0, 1, 1)]), (1, 1, 3))
        self.assertEqual(mean([(1, 1, 1), (-1, -1, 1)]), (0, 0, 1))
        self.assertEqual(mean([(1, 0, 2), (0, 1, 3)]), (3, 2, 12))
        self.assertEqual(mean(TWO), (1, 0, 1))

    def test_as_the_parts_tell(self):
        for points in HEAPS:
            told = mean(points)
            self.assertIs(is_point(told), True)
            xs, ys = zip(*map(parts, points))
            self.assertEqual(parts(told), (sum(xs) / len(points), sum(ys) / len(points)))

    def test_it_is_moved_along(self):
        for motion in MOTIONS:
            for points in HEAPS[::2]:
                self.assertEqual(mean(moved(motion, points)), led(motion, mean(points)))


class TestGaps(unittest.TestCase):
    def test_by_hand(self):
        self.assertEqual(gaps(SQUARE), {(1, 1): 4, (2, 1): 2})
        self.assertEqual(gaps(TILTED_SQUARE), {(1, 1): 4, (2, 1): 2})
        self.assertEqual(gaps(RECTANGLE), {(1, 1): 2, (4, 1): 2, (5, 1): 2})
        self.assertEqual(gaps([(0, 0, 1), (1, 0, 2)]), {(1, 4): 1})
        self.assertEqual(gaps([(0, 0, 1), (1, 1, 2), (1, 0, 1)]), {(1, 2): 2, (1, 1): 1})

    def test_as_the_parts_tell(self):
        for points in HEAPS:
            squares = [model_gap(p, q) for p, q in combinations(points, 2)]
            slow = {(square.numerator, square.denominator): squares.count(square) for square in squares}
            self.assertEqual(gaps(points), slow)
            self.assertIs(type(gaps(points)), dict)

    def test_each_pair_once(self):
        for points in HEAPS:
            self.assertEqual(sum(gaps(points).values()), len(points) * (len(points) - 1) // 2)

    def test_behind_a_motion(self):
        for motion in MOTIONS:
            for points in HEAPS[::3]:
                self.assertEqual(gaps(moved(motion, points)), gaps(points))

    def test_same_gaps(self):
        for at, one in enumerate(HEAPS):
            for place, other in enumerate(HEAPS):
                told = gaps(one) == gaps(other)
                self.assertIs(same_gaps(one, other), told)
                self.assertIs(told, at == place or {at, place} == {1, 2})

    def test_as_often_counts(self):
        self.assertIs(same_gaps([(0, 0, 1), (1, 0, 1)], [(0, 0, 1), (0, 1, 1)]), True)
        self.assertIs(same_gaps([(0, 0, 1), (1, 0, 1)], SQUARE), False)
        one = [(0, 0, 1), (0, 1, 1), (0, 2, 1), (1, 0, 1)]
        other = [(0, 0, 1), (0, 1, 1), (1, 0, 1), (1, 2, 1)]
        self.assertEqual(set(gaps(one)), set(gaps(other)))
        self.assertIs(same_gaps(one, other), False)
        self.assertIs(same_gaps(other, one), False)

    def test_same_gaps_of_heaps_that_are_not_alike(self):
        one = [(x, 0, 1) for x in (0, 1, 4, 10, 12, 17)]
        other = [(x, 0, 1) for x in (0, 1, 8, 11, 13, 17)]
        self.assertIs(same_gaps(one, other), True)
        self.assertIs(same_gaps(other, one), True)


class TestWidest(unittest.TestCase):
    def test_by_hand(self):
        self.assertEqual(widest(SQUARE), (2, 1))
        self.assertEqual(widest(RHOMBUS), (16, 1))
        self.assertEqual(widest(SLANTED), (17, 1))
        self.assertEqual(widest(EVEN_SIDED), (10, 1))
        self.assertEqual(widest(UNEVEN), (9, 1))

    def test_shares_are_told_by_how_great_they_are(self):
        self.assertEqual(widest([(0, 0, 1), (1, 0, 2), (1, 0, 3)]), (1, 4))
        self.assertEqual(widest([(0, 0, 1), (7, 0, 10), (1, 0, 1)]), (1, 1))

    def test_as_the_parts_tell(self):
        for points in HEAPS:
            told = widest(points)
            self.assertIs(type(told), tuple)
            self.assertEqual(Fraction(*told), max(model_gap(p, q) for p, q in combinations(points, 2)))


if __name__ == "__main__":
    unittest.main()
