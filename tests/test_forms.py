import unittest
from fractions import Fraction
from itertools import permutations

from laidover.forms import form, scale, shape, similar
from laidover.heaps import moved, widest
from laidover.points import is_point
from laidover.whole import alike
from tests.samples import (
    EVEN_SIDED, FEW_MOTIONS, FAR_OFF, HEAPS, MOTIONS, RECTANGLE, ROW, SQUARE, TILTED_SQUARE, TRIPLES, TWO, UNEVEN,
    model_gap, parts, scaled, standing,
)

FACTORS = [(2, 0, 1), (1, 0, 3), (-5, 0, 7), (1, 1, 1), (0, 3, 2), (2, -3, 5), (10 ** 12, 1, 1)]


def slow_shape(points):
    """The shape by the document's own words."""
    greatest = max(model_gap(p, q) for p, q in permutations(points, 2))
    rows = []
    for a, b in permutations(points, 2):
        if model_gap(a, b) == greatest:
            (ax, ay), (bx, by) = parts(a), parts(b)
            u, v = bx - ax, by - ay
            row = [
                (((x - ax) * u + (y - ay) * v) / greatest, ((y - ay) * u - (x - ax) * v) / greatest)
                for x, y in map(parts, points)
            ]
            rows += [sorted(row), sorted((x, -y) for x, y in row)]
    return tuple(standing(x, y) for x, y in min(rows))


class TestShape(unittest.TestCase):
    def test_by_hand(self):
        self.assertEqual(shape(TWO), ((0, 0, 1), (1, 0, 1)))
        self.assertEqual(shape(SQUARE), ((0, 0, 1), (1, -1, 2), (1, 1, 2), (1, 0, 1)))
        self.assertEqual(shape(ROW), ((0, 0, 1), (1, 0, 2), (1, 0, 1)))
        self.assertEqual(shape(UNEVEN), ((0, 0, 1), (1, -1, 3), (1, 0, 1)))
        self.assertEqual(shape([(0, 0, 1), (2, 0, 1), (3, 0, 1)]), ((0, 0, 1), (1, 0, 3), (1, 0, 1)))

    def test_two_farthest_pairs(self):
        # Both long sides are as long: from the tip, or towards it, and with a flip.
        self.assertEqual(shape(EVEN_SIDED), slow_shape(EVEN_SIDED))
        self.assertEqual(shape(EVEN_SIDED), ((0, 0, 1), (1, -3, 5), (1, 0, 1)))

    def test_as_the_document_says(self):
        for points in HEAPS:
            told = shape(points)
            self.assertIs(type(told), tuple)
            self.assertEqual(told, slow_shape(points))
            for p in told:
                self.assertIs(is_point(p), True)

    def test_triples_as_the_document_says(self):
        for points in TRIPLES:
            self.assertEqual(shape(points), slow_shape(points))

    def test_of_heaps_moved_and_flipped_and_made_greater_and_less(self):
        for points in HEAPS:
            told = shape(points)
            for motion in FEW_MOTIONS:
                self.assertEqual(shape(moved(motion, points)), told)
                for factor in FACTORS[::3]:
                    self.assertEqual(shape(scaled(factor, moved(motion, points))), told)


class TestSimilar(unittest.TestCase):
    def test_just_if_the_shapes_are_the_same(self):
        for one in TRIPLES[::3]:
            for other in TRIPLES[::2]:
                self.assertIs(similar(one, other), shape(one) == shape(other))

    def test_just_if_the_gaps_have_the_same_ratios(self):
        # Three points are similar just if their sides are.
        def ratios(points):
            squares = sorted(model_gap(points[at], points[at - 1]) for at in range(3))
            return [square / squares[-1] for square in squares]
        for one in TRIPLES[::3]:
            for other in TRIPLES[::2]:
                self.assertIs(similar(one, other), ratios(one) == ratios(other))

    def test_made_greater_and_less(self):
        for points in HEAPS:
            for factor in FACTORS:
                self.assertIs(similar(points, scaled(factor, points)), True)
                self.assertIs(similar(scaled(factor, points), points), True)

    def test_by_hand(self):
        self.assertIs(similar(TWO, [(0, 0, 1), (1, 1, 1)]), True)
        self.assertIs(similar(TWO, FAR_OFF[:2]), True)
        self.assertIs(similar(SQUARE, [(1, 0, 1), (0, 1, 1), (-1, 0, 1), (0, -1, 1)]), True)
        self.assertIs(similar(SQUARE, RECTANGLE), False)
        self.assertIs(similar(SQUARE, SQUARE[:3]), False)
        self.assertIs(similar(TWO, ROW), False)
        self.assertIs(similar(UNEVEN, EVEN_SIDED), False)


class TestForm(unittest.TestCase):
    def test_by_hand(self):
        self.assertEqual(form(TWO), ((4, 1), ((0, 0, 1), (1, 0, 1))))
        self.assertEqual(form(SQUARE), form(TILTED_SQUARE))
        self.assertEqual(form(SQUARE), ((2, 1), ((0, 0, 1), (1, -1, 2), (1, 1, 2), (1, 0, 1))))

    def test_the_greatest_gap_and_the_shape(self):
        for points in HEAPS:
            self.assertEqual(form(points), (widest(points), shape(points)))
            self.assertIs(type(form(points)), tuple)

    def test_of_heaps_moved_and_flipped(self):
        for motion in MOTIONS:
            for points in HEAPS[::4]:
                self.assertEqual(form(moved(motion, points)), form(points))

    def test_not_of_heaps_made_greater_or_less(self):
        for points in HEAPS:
            for factor in FACTORS:
                self.assertNotEqual(form(scaled(factor, points)), form(points))

    def test_just_of_heaps_alike(self):
        for one in TRIPLES[::3]:
            for other in TRIPLES[::2]:
                self.assertIs(form(one) == form(other), alike(one, other))
        for one in HEAPS:
            for other in HEAPS:
                self.assertIs(form(one) == form(other), alike(one, other))


class TestScale(unittest.TestCase):
    def test_by_hand(self):
        self.assertEqual(scale(TWO, [(0, 0, 1), (1, 1, 1)]), (1, 2))
        self.assertEqual(scale([(0, 0, 1), (1, 1, 1)], TWO), (2, 1))
        self.assertEqual(scale(SQUARE, [(1, 0, 1), (0, 1, 1), (-1, 0, 1), (0, -1, 1)]), (2, 1))
        self.assertEqual(scale(SQUARE, TILTED_SQUARE), (1, 1))

    def test_from_one_to_the_other(self):
        for points in HEAPS:
            for factor in FACTORS:
                x, y = parts(factor)
                square = Fraction(x * x + y * y)
                told = scale(points, scaled(factor, points))
                self.assertIs(type(told), tuple)
                self.assertEqual(told, (square.numerator, square.denominator))
                self.assertEqual(scale(scaled(factor, points), points), (square.denominator, square.numerator))

    def test_of_heaps_alike(self):
        for motion in FEW_MOTIONS:
            for points in HEAPS:
                self.assertEqual(scale(points, moved(motion, points)), (1, 1))

    def test_none_of_heaps_that_are_not_similar(self):
        for one in HEAPS:
            for other in HEAPS:
                self.assertIs(scale(one, other) is None, not similar(one, other))
        self.assertIsNone(scale(SQUARE, RECTANGLE))


if __name__ == "__main__":
    unittest.main()
