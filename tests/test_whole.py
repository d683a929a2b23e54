import unittest

from laidover.heaps import heap, mean, moved
from laidover.motions import axis, back, center, is_motion, kind_of, led, then
from laidover.points import is_point
from laidover.whole import alike, heart, is_handed, laying, mirrors_of, orbits, symmetries, turns_of
from tests.samples import (
    EVEN_SIDED, FEW_MOTIONS, GRID, HEAPS, MOTIONS, PINWHEEL, RECTANGLE, RHOMBUS, RING, ROW, SLANTED, SMALL_HEAPS,
    SQUARE, TILTED_SQUARE, TRIPLES, TWO, UNEVEN, UNEVEN_ROW, WITH_SHARES, by_parts, slow_laying,
)

ORIGIN = (0, 0, 1)
STAY = ((1, 0, 1), ORIGIN, 0)


class TestLaying(unittest.TestCase):
    def test_two_points(self):
        self.assertEqual(laying(TWO, [(0, 1, 1), (0, 3, 1)]), [
            ((0, -1, 1), (0, 3, 1), 0), ((0, -1, 1), (0, 3, 1), 1),
            ((0, 1, 1), (0, 1, 1), 0), ((0, 1, 1), (0, 1, 1), 1),
        ])

    def test_turns_of_shares(self):
        one, other = [(0, 0, 1), (5, 0, 1), (0, 1, 1)], [(0, 0, 1), (3, 4, 1), (-4, 3, 5)]
        self.assertEqual(laying(one, other), [((3, 4, 5), ORIGIN, 0)])
        self.assertEqual(laying(one, [(0, 0, 1), (3, 4, 1), (4, -3, 5)]), [((3, 4, 5), ORIGIN, 1)])

    def test_as_a_slow_search_tells(self):
        for one in SMALL_HEAPS:
            for other in SMALL_HEAPS:
                told = laying(one, other)
                self.assertIs(type(told), list)
                self.assertEqual(told, slow_laying(one, other))

    def test_moved_ones_as_a_slow_search_tells(self):
        for motion in FEW_MOTIONS:
            for points in SMALL_HEAPS[1::2]:
                other = moved(motion, points)
                told = laying(points, other)
                self.assertEqual(told, slow_laying(points, other))
                self.assertIn(motion, told)

    def test_many_points(self):
        for points in (GRID, RING, PINWHEEL):
            other = moved(((5, 12, 13), (1, -1, 2), 1), points)
            self.assertEqual(laying(points, other), slow_laying(points, other))

    def test_all_lead_so_and_rise(self):
        for motion in FEW_MOTIONS:
            for points in HEAPS:
                other = moved(motion, points)
                told = laying(points, other)
                self.assertIn(motion, told)
                self.assertEqual(told, sorted(told))
                self.assertEqual(len(told), len(set(told)))
                for way in told:
                    self.assertIs(is_motion(way), True)
                    self.assertEqual(moved(way, points), other)

    def test_as_many_ways_as_symmetries(self):
        for points in HEAPS:
            other = moved(((33, 56, 65), (-8, 9, 15), 1), points)
            self.assertEqual(len(laying(points, other)), len(symmetries(points)))

    def test_none_of_heaps_not_as_many(self):
        self.assertEqual(laying(SQUARE, SQUARE[:3]), [])
        self.assertEqual(laying(SQUARE[:3], SQUARE), [])
        self.assertEqual(laying(ROW, TWO), [])

    def test_none_of_heaps_not_alike(self):
        self.assertEqual(laying(SQUARE, RECTANGLE), [])
        self.assertEqual(laying(TWO, [(0, 0, 1), (1, 0, 1)]), [])
        self.assertEqual(laying(UNEVEN, EVEN_SIDED), [])

    def test_the_same_gaps_are_not_enough(self):
        one = [(x, 0, 1) for x in (0, 1, 4, 10, 12, 17)]
        other = [(x, 0, 1) for x in (0, 1, 8, 11, 13, 17)]
        self.assertEqual(laying(one, other), [])
        self.assertIs(alike(one, other), False)


class TestAlike(unittest.TestCase):
    def test_just_where_there_is_a_motion(self):
        for one in HEAPS:
            for other in HEAPS:
                self.assertIs(alike(one, other), laying(one, other) != [])

    def test_moved_ones(self):
        for motion in MOTIONS:
            for points in HEAPS[::4]:
                self.assertIs(alike(points, moved(motion, points)), True)

    def test_triples_as_a_slow_search_tells(self):
        for one in TRIPLES[::9]:
            for other in TRIPLES[::4]:
                self.assertIs(alike(one, other), slow_laying(one, other) != [])


class TestSymmetries(unittest.TestCase):
    def test_two_points(self):
        self.assertEqual(symmetries(TWO), [
            ((-1, 0, 1), (2, 0, 1), 0), ((-1, 0, 1), (2, 0, 1), 1),
            STAY, ((1, 0, 1), ORIGIN, 1),
        ])

    def test_square(self):
        self.assertEqual(symmetries(SQUARE), [
            ((-1, 0, 1), (1, 0, 1), 1), ((-1, 0, 1), (1, 1, 1), 0),
            ((0, -1, 1), (0, 1, 1), 0), ((0, -1, 1), (1, 1, 1), 1),
            ((0, 1, 1), (0, 0, 1), 1), ((0, 1, 1), (1, 0, 1), 0),
            ((1, 0, 1), (0, 0, 1), 0), ((1, 0, 1), (0, 1, 1), 1),
        ])

    def test_turns_and_mirrors(self):
        for points, turns, mirrors in (
            (TWO, 2, 2), (SQUARE, 4, 4), (TILTED_SQUARE, 4, 4), (RECTANGLE, 2, 2), (RHOMBUS, 2, 2),
            (SLANTED, 2, 0), (EVEN_SIDED, 1, 1), (UNEVEN, 1, 0), (ROW, 2, 2), (UNEVEN_ROW, 1, 1),
            (WITH_SHARES, 1, 0), (PINWHEEL, 4, 0), (RING, 4, 4), (GRID, 1, 0),
        ):
            self.assertEqual(turns_of(points), turns)
            self.assertEqual(len(mirrors_of(points)), mirrors)
            self.assertEqual(len(symmetries(points)), turns + mirrors)
            self.assertIs(is_handed(points), mirrors == 0)

    def test_they_are_those_of_a_heap_to_itself(self):
        for points in HEAPS:
            told = symmetries(points)
            self.assertIs(type(told), list)
            self.assertEqual(told, laying(points, points))
            self.assertIn(STAY, told)

    def test_one_behind_another_and_back(self):
        for points in HEAPS:
            ways = symmetries(moved(((3, 4, 5), (1, -1, 2), 1), points))
            for one in ways:
                self.assertIn(back(one), ways)
                for other in ways:
                    self.assertIn(then(one, other), ways)

    def test_behind_a_motion(self):
        for motion in FEW_MOTIONS:
            for points in HEAPS[::3]:
                behind = sorted(then(then(back(motion), way), motion) for way in symmetries(points))
                self.assertEqual(symmetries(moved(motion, points)), behind)


class TestMirrors(unittest.TestCase):
    def test_by_hand(self):
        self.assertEqual(mirrors_of(TWO), [(0, 1, 0), (1, 0, -1)])
        self.assertEqual(mirrors_of(SQUARE), [(0, 2, -1), (1, -1, 0), (1, 1, -1), (2, 0, -1)])
        self.assertEqual(mirrors_of(RECTANGLE), [(0, 2, -1), (1, 0, -1)])
        self.assertEqual(mirrors_of(EVEN_SIDED), [(1, 0, -1)])
        self.assertEqual(mirrors_of(UNEVEN_ROW), [(4, -3, 0)])
        self.assertEqual(mirrors_of(SLANTED), [])

    def test_the_axes_of_the_flips_rising(self):
        for motion in FEW_MOTIONS:
            for points in HEAPS:
                other = moved(motion, points)
                told = mirrors_of(other)
                self.assertIs(type(told), list)
                flips = [way for way in symmetries(other) if way[2] == 1]
                self.assertEqual(told, sorted(axis(way) for way in flips))
                self.assertEqual({kind_of(way) for way in flips} - {"mirror"}, set())

    def test_turns_of_counts_the_one_that_does_nothing(self):
        self.assertEqual(turns_of(UNEVEN), 1)
        for points in HEAPS:
            self.assertEqual(turns_of(points), sum(way[2] == 0 for way in symmetries(points)))


class TestHeart(unittest.TestCase):
    def test_by_hand(self):
        self.assertEqual(heart(SQUARE), (1, 1, 2))
        self.assertEqual(heart(TWO), (1, 0, 1))
        self.assertEqual(heart(SLANTED), (4, 1, 2))
        self.assertEqual(heart(PINWHEEL), ORIGIN)

    def test_none_without_any_turn(self):
        for points in (EVEN_SIDED, UNEVEN, UNEVEN_ROW, WITH_SHARES, GRID):
            self.assertIsNone(heart(points))

    def test_the_center_of_all_turns(self):
        for motion in FEW_MOTIONS:
            for points in HEAPS:
                other = moved(motion, points)
                centers = [center(way) for way in symmetries(other) if kind_of(way) == "turn"]
                self.assertEqual({heart(other)}, set(centers) or {None})
                if centers:
                    self.assertIs(is_point(heart(other)), True)
                    self.assertEqual(heart(other), mean(other))


class TestOrbits(unittest.TestCase):
    def test_by_hand(self):
        self.assertEqual(orbits(SQUARE), [((0, 0, 1), (0, 1, 1), (1, 0, 1), (1, 1, 1))])
        self.assertEqual(orbits(ROW), [((0, 0, 1), (2, 0, 1)), ((1, 0, 1),)])
        self.assertEqual(orbits(SLANTED), [((0, 0, 1), (4, 1, 1)), ((1, 1, 1), (3, 0, 1))])
        self.assertEqual(orbits(EVEN_SIDED), [((0, 0, 1), (2, 0, 1)), ((1, 3, 1),)])
        self.assertEqual(orbits(UNEVEN), [((0, 0, 1),), ((1, 1, 1),), ((3, 0, 1),)])
        self.assertEqual(orbits(RHOMBUS), [((-2, 0, 1), (2, 0, 1)), ((0, -1, 1), (0, 1, 1))])
        self.assertEqual(len(orbits(PINWHEEL)), 2)

    def test_each_point_once_with_those_it_is_led_to(self):
        for motion in FEW_MOTIONS:
            for points in HEAPS:
                other = moved(motion, points)
                told = orbits(other)
                self.assertIs(type(told), list)
                self.assertEqual(heap([p for orbit in told for p in orbit]), other)
                self.assertEqual([orbit[0] for orbit in told], by_parts([orbit[0] for orbit in told]))
                for orbit in told:
                    self.assertIs(type(orbit), tuple)
                    for p in orbit:
                        places = {led(way, p) for way in symmetries(other)}
                        self.assertEqual(list(orbit), by_parts(places))


if __name__ == "__main__":
    unittest.main()
