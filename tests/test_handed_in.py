"""What holds of all that takes heaps or lists: refusals, order, and what is told being new."""

import copy
import unittest

from laidover import copies, forms, heaps, partly, squares, texts, whole
from laidover.errors import BadHeap, BadMotion, BadNumber, BadPairs
from tests.samples import (
    GRID, HEAPS, NO_HEAPS, NO_MOTIONS, NO_PARTNERS, PARTNERS, PINWHEEL, RECTANGLE, SLANTED, SQUARE, UNEVEN, WITH_SHARES,
)

MOTION = ((3, 4, 5), (1, -1, 2), 1)

OF_ONE = [
    heaps.heap, heaps.mean, heaps.gaps, heaps.widest,
    whole.symmetries, whole.turns_of, whole.mirrors_of, whole.is_handed, whole.heart, whole.orbits,
    forms.shape, forms.form, texts.heap_text,
    lambda points: copies.pairs_at(points, (1, 1)),
]

OF_TWO = [
    heaps.same_gaps, whole.laying, whole.alike, forms.similar, forms.scale,
    partly.best_over, partly.shifts, partly.best_shift, partly.quarter_turns, partly.common_part,
    copies.placings, copies.copies, copies.apart_copies, copies.holds, copies.covering, squares.apart,
]

WITH_MOTION = [partly.laid, partly.strays]

OF_PARTNERS = [
    squares.cost, squares.nearest_shift, squares.nearest_turn, squares.turn_motion,
    lambda one, other: squares.nearest_turn(one, other, flip=1),
    lambda one, other: squares.turn_motion(one, other, flip=1),
    lambda one, other: squares.cost_behind(MOTION, one, other),
]

SOME_PAIRS = [
    (SQUARE, RECTANGLE), (SLANTED, WITH_SHARES), (UNEVEN, SQUARE), (PINWHEEL, GRID[:5]),
    (SLANTED, heaps.moved(MOTION, SLANTED)),
]


def answers(one, other):
    """All that is told of two heaps."""
    told = [asked(points) for asked in OF_ONE for points in (one, other)]
    told += [asked(one, other) for asked in OF_TWO]
    told += [asked(MOTION, one, other) for asked in WITH_MOTION]
    told += [heaps.is_heap(one), heaps.moved(MOTION, one)]
    told += [partly.at_least(one, other, many=many) for many in (2, 3)]
    told += [partly.best_over(one, other, flips=flips) for flips in (True, False)]
    return told


def spoil(thing):
    """Change all lists and dicts within a thing."""
    if isinstance(thing, tuple):
        for part in thing:
            spoil(part)
    elif isinstance(thing, list):
        thing.append("spoilt")
        thing.reverse()
    elif isinstance(thing, dict):
        thing.clear()


class TestRefusals(unittest.TestCase):
    def assert_refuses(self, refusal, asked, *handed, **named):
        with self.assertRaises(refusal):
            asked(*handed, **named)

    def test_no_heaps(self):
        for at, thing in enumerate(NO_HEAPS):
            with self.subTest(at=at):
                for asked in OF_ONE:
                    self.assert_refuses(BadHeap, asked, thing)
                for asked in OF_TWO:
                    self.assert_refuses(BadHeap, asked, thing, SQUARE)
                    self.assert_refuses(BadHeap, asked, SQUARE, thing)
                    self.assert_refuses(BadHeap, asked, thing, thing)

    def test_no_heaps_beside_a_motion(self):
        for at, thing in enumerate(NO_HEAPS):
            with self.subTest(at=at):
                self.assert_refuses(BadHeap, heaps.moved, MOTION, thing)
                for asked in WITH_MOTION:
                    self.assert_refuses(BadHeap, asked, MOTION, thing, SQUARE)
                    self.assert_refuses(BadHeap, asked, MOTION, SQUARE, thing)
                    self.assert_refuses(BadHeap, asked, MOTION, thing, thing)

    def test_no_motions(self):
        for at, thing in enumerate(NO_MOTIONS):
            with self.subTest(at=at):
                self.assert_refuses(BadMotion, heaps.moved, thing, SQUARE)
                for asked in WITH_MOTION:
                    self.assert_refuses(BadMotion, asked, thing, SQUARE, RECTANGLE)

    def test_motions_are_looked_at_ahead_of_heaps(self):
        for motion in NO_MOTIONS:
            for thing in NO_HEAPS[::5]:
                self.assert_refuses(BadMotion, heaps.moved, motion, thing)
                for asked in WITH_MOTION:
                    self.assert_refuses(BadMotion, asked, motion, thing, SQUARE)
                    self.assert_refuses(BadMotion, asked, motion, SQUARE, thing)
                    self.assert_refuses(BadMotion, asked, motion, thing, thing)

    def test_heaps_are_looked_at_ahead_of_the_rest(self):
        for thing in NO_HEAPS:
            for one, other in ((thing, SQUARE), (SQUARE, thing), (thing, thing)):
                for many in (2, 1, 15, True, None, "2"):
                    self.assert_refuses(BadHeap, partly.at_least, one, other, many=many)
                for flips in (True, False, 1, 0, None):
                    self.assert_refuses(BadHeap, partly.best_over, one, other, flips=flips)

    def test_no_partners_beside_a_motion(self):
        for thing in NO_PARTNERS:
            for one, other in ((thing, SQUARE), (SQUARE, thing), (thing, thing)):
                self.assert_refuses(BadPairs, squares.cost_behind, MOTION, one, other)
                for motion in NO_MOTIONS[::7]:
                    self.assert_refuses(BadMotion, squares.cost_behind, motion, one, other)
        for motion in NO_MOTIONS:
            self.assert_refuses(BadMotion, squares.cost_behind, motion, SQUARE, SQUARE)
            self.assert_refuses(BadMotion, squares.cost_behind, motion, SQUARE, UNEVEN)

    def test_heaps_are_looked_at_whatever_the_square_is(self):
        for thing in NO_HEAPS:
            for square in ((1, 1), None, [], "1", (1, 0), 1):
                self.assert_refuses(BadHeap, copies.pairs_at, thing, square)

    def test_numbers_are_refused_where_nothing_is_laid_too(self):
        far = [(0, 0, 1), (1000, 0, 1)]
        for many in (1, 15, True, None):
            self.assert_refuses(BadNumber, partly.at_least, SQUARE, far, many=many)
        for flips in (1, 0, None):
            self.assert_refuses(BadNumber, partly.best_over, SQUARE, far, flips=flips)


class TestHandedIn(unittest.TestCase):
    def test_lists_and_tuples_in_any_order_answer_alike(self):
        for one, other in SOME_PAIRS:
            told = answers(list(one), list(other))
            self.assertEqual(answers(tuple(one), tuple(other)), told)
            self.assertEqual(answers(list(one), tuple(other)), told)
            for turn in range(1, len(one)):
                turned = list(one[turn:]) + list(one[:turn])
                self.assertEqual(answers(turned, other[::-1]), told)
                self.assertEqual(answers(tuple(turned[::-1]), tuple(other)), told)

    def test_dicts_have_one_order_too(self):
        for one, other in SOME_PAIRS:
            self.assertEqual(list(heaps.gaps(one)), list(heaps.gaps(one[::-1])))
            self.assertEqual(list(partly.shifts(one, other)), list(partly.shifts(one[::-1], other[::-1])))

    def test_what_is_handed_in_stays(self):
        for one, other in SOME_PAIRS:
            one, other = list(one), list(other)
            before = copy.deepcopy((one, other))
            answers(one, other)
            answers(one, one)
            self.assertEqual((one, other), before)

    def test_what_is_refused_stays(self):
        for thing in ([(2, 0, 1), (1, 0, 1), (2, 0, 1)], [[1, 0, 1], (0, 0, 1)], [(0, 0, 1), (2, 2, 2)], {1: [2]}):
            before = copy.deepcopy(thing)
            for asked in OF_ONE:
                with self.assertRaises(BadHeap):
                    asked(thing)
            for asked in OF_TWO:
                with self.assertRaises(BadHeap):
                    asked(SQUARE, thing)
            self.assertEqual(thing, before)

    def test_what_is_told_may_be_changed(self):
        for one, other in SOME_PAIRS:
            one, other = list(one), list(other)
            before = copy.deepcopy((one, other))
            first = answers(one, other)
            kept = copy.deepcopy(first)
            for told in first:
                spoil(told)
            self.assertNotEqual(first, kept)
            self.assertEqual((one, other), before)
            self.assertEqual(answers(one, other), kept)

    def test_partners_stay(self):
        for one, other in PARTNERS:
            one, other = list(one), list(other)
            before = copy.deepcopy((one, other))
            all_asked = OF_PARTNERS + [squares.paired] if len(one) <= 6 else OF_PARTNERS
            first = [asked(one, other) for asked in all_asked]
            self.assertEqual((one, other), before)
            self.assertEqual([asked(one, other) for asked in all_asked], first)
            for asked in all_asked:
                asked(one, one)
            self.assertEqual((one, other), before)

    def test_refused_partners_stay(self):
        for thing in ([(1, 0, 1), [0, 0, 1]], [(2, 2, 2), (0, 0, 1)], [(0, 0, 1)] * 15, [[]], {1: [2]}, [(1, 1, 1)] * 3):
            before = copy.deepcopy(thing)
            for asked in OF_PARTNERS + [squares.paired]:
                with self.assertRaises(BadPairs):
                    asked(thing, [(0, 0, 1), (1, 0, 1)])
                with self.assertRaises(BadPairs):
                    asked([(0, 0, 1), (1, 0, 1)], thing)
            self.assertEqual(thing, before)

    def test_told_heaps_may_be_handed_in_again(self):
        for points in HEAPS:
            self.assertEqual(heaps.heap(heaps.heap(points)), heaps.heap(points))
            self.assertEqual(forms.shape(forms.shape(points)), forms.shape(points))


if __name__ == "__main__":
    unittest.main()
