import copy
import unittest
from fractions import Fraction

from laidover.errors import BadPoint
from laidover.points import (
    difference, flipped, in_order, is_ahead, is_point, middle, point, product, quotient, rows_in_order, square_gap,
    sum_of_points, total,
)
from tests.samples import NO_POINTS, NO_WHOLE_NUMBERS, POINTS, model_gap, parts


class TestPoint(unittest.TestCase):
    def test_w_left_out(self):
        self.assertEqual(point(3, -4), (3, -4, 1))
        self.assertEqual(point(0, 0), (0, 0, 1))

    def test_w_by_its_name(self):
        self.assertEqual(point(1, 2, w=3), (1, 2, 3))

    def test_lowest_terms(self):
        self.assertEqual(point(2, 4, 6), (1, 2, 3))
        self.assertEqual(point(6, 10, 15), (6, 10, 15))
        self.assertEqual(point(0, 0, 9), (0, 0, 1))
        self.assertEqual(point(0, 6, 4), (0, 3, 2))
        self.assertEqual(point(6, 0, 4), (3, 0, 2))
        self.assertEqual(point(-6, -9, 12), (-2, -3, 4))
        self.assertEqual(point(7 * 10 ** 50, -14 * 10 ** 50, 21 * 10 ** 49), (10, -20, 3))

    def test_w_below_nought(self):
        self.assertEqual(point(1, 2, -3), (-1, -2, 3))
        self.assertEqual(point(-4, 6, -2), (2, -3, 1))
        self.assertEqual(point(0, 0, -5), (0, 0, 1))
        self.assertEqual(point(1, 0, -1), (-1, 0, 1))

    def test_many_are_points_where_they_must_stand(self):
        for x in range(-6, 7):
            for y in range(-6, 7):
                for w in (-12, -3, -1, 1, 2, 6):
                    told = point(x, y, w)
                    self.assertIs(is_point(told), True)
                    self.assertEqual(parts(told), (Fraction(x, w), Fraction(y, w)))

    def test_w_of_nought_is_refused(self):
        for x, y in ((0, 0), (1, 2), (-3, 0)):
            with self.assertRaises(BadPoint):
                point(x, y, 0)

    def test_no_whole_numbers_are_refused(self):
        for at, thing in enumerate(NO_WHOLE_NUMBERS):
            for numbers in ((thing, 2, 3), (1, thing, 3), (1, 2, thing), (thing, 1, 0), (thing, thing, thing)):
                with self.subTest(at=at):
                    with self.assertRaises(BadPoint):
                        point(*numbers)


class TestIsPoint(unittest.TestCase):
    def test_points(self):
        for p in POINTS:
            self.assertIs(is_point(p), True)

    def test_no_points(self):
        for at, thing in enumerate(NO_POINTS):
            with self.subTest(at=at):
                self.assertIs(is_point(thing), False)


class TestIsAhead(unittest.TestCase):
    def test_farther_right(self):
        self.assertIs(is_ahead((0, 9, 1), (1, 0, 1)), True)
        self.assertIs(is_ahead((1, 0, 1), (0, 9, 1)), False)
        self.assertIs(is_ahead((1, 0, 3), (1, 0, 2)), True)
        self.assertIs(is_ahead((1, 0, 2), (1, 0, 3)), False)
        self.assertIs(is_ahead((-1, 0, 2), (-1, 0, 3)), True)

    def test_as_far_right(self):
        self.assertIs(is_ahead((1, 0, 1), (1, 1, 1)), True)
        self.assertIs(is_ahead((1, 1, 1), (1, 0, 1)), False)
        self.assertIs(is_ahead((1, 1, 2), (3, 4, 6)), True)
        self.assertIs(is_ahead((3, 4, 6), (1, 1, 2)), False)

    def test_itself(self):
        for p in POINTS:
            self.assertIs(is_ahead(p, p), False)

    def test_as_the_parts_tell(self):
        for p in POINTS:
            for q in POINTS:
                self.assertIs(is_ahead(p, q), parts(p) < parts(q))


class TestSquareGap(unittest.TestCase):
    def test_lowest_terms(self):
        self.assertEqual(square_gap((0, 0, 1), (3, 4, 1)), (25, 1))
        self.assertEqual(square_gap((0, 0, 1), (3, 4, 5)), (1, 1))
        self.assertEqual(square_gap((0, 0, 1), (1, 1, 2)), (1, 2))
        self.assertEqual(square_gap((1, 0, 2), (0, 1, 3)), (13, 36))

    def test_nought(self):
        for p in POINTS:
            self.assertEqual(square_gap(p, p), (0, 1))

    def test_as_the_parts_tell(self):
        for p in POINTS:
            for q in POINTS:
                told = model_gap(p, q)
                self.assertEqual(square_gap(p, q), (told.numerator, told.denominator))
                self.assertIs(type(square_gap(p, q)), tuple)


class TestRefusals(unittest.TestCase):
    def test_no_points_are_refused(self):
        for asked in (is_ahead, square_gap):
            for at, thing in enumerate(NO_POINTS):
                with self.subTest(asked=asked.__name__, at=at):
                    for handed in ((thing, (0, 0, 1)), ((0, 0, 1), thing), (thing, thing)):
                        with self.assertRaises(BadPoint):
                            asked(*handed)

    def test_what_is_handed_in_stays(self):
        for thing in ([2, 4, 6], ([2], 4, 6), {0: [1]}, [[0, 0, 1]]):
            before = copy.deepcopy(thing)
            self.assertIs(is_point(thing), False)
            for asked in (is_ahead, square_gap, point):
                with self.assertRaises(BadPoint):
                    asked(thing, (0, 0, 1))
            self.assertEqual(thing, before)


class TestReckoning(unittest.TestCase):
    def assert_stands(self, p, x, y):
        self.assertIs(is_point(p), True)
        self.assertEqual(parts(p), (x, y))

    def test_sums_and_products(self):
        for p in POINTS:
            for q in POINTS:
                (a, b), (c, d) = parts(p), parts(q)
                self.assert_stands(total(p, q), a + c, b + d)
                self.assert_stands(difference(p, q), a - c, b - d)
                self.assert_stands(product(p, q), a * c - b * d, a * d + b * c)

    def test_many_together(self):
        for many in range(1, len(POINTS) + 1):
            points = POINTS[-many:]
            x, y = sum(parts(p)[0] for p in points), sum(parts(p)[1] for p in points)
            self.assert_stands(sum_of_points(points), x, y)
            self.assert_stands(middle(points), x / many, y / many)
            self.assertEqual(middle([points[0]] * many), points[0])

    def test_quotient_times_what_divides(self):
        for p in POINTS:
            for q in POINTS[1:]:
                self.assertIs(is_point(quotient(p, q)), True)
                self.assertEqual(product(quotient(p, q), q), p)

    def test_flipped(self):
        for p in POINTS:
            x, y = parts(p)
            self.assert_stands(flipped(p), x, -y)


class TestInOrder(unittest.TestCase):
    def test_points(self):
        self.assertEqual(in_order(POINTS), sorted(POINTS, key=parts))
        self.assertEqual(in_order(POINTS[::-1]), sorted(POINTS, key=parts))
        self.assertEqual(in_order([]), [])

    def test_rows(self):
        rows = [[p, q] for p in POINTS for q in POINTS]
        self.assertEqual(rows_in_order(rows), sorted(rows, key=lambda row: [parts(p) for p in row]))


if __name__ == "__main__":
    unittest.main()
