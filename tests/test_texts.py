import re
import unittest
from fractions import Fraction

from laidover.errors import BadHeap, BadMotion, BadText
from laidover.heaps import heap, moved
from laidover.texts import heap_read, heap_text, motion_read, motion_text
from tests.samples import (
    FEW_MOTIONS, GRID, HEAPS, MOTIONS, NO_HEAPS, NO_MOTIONS, NO_WHOLE_NUMBERS, ROW, SQUARE, TWO, WITH_SHARES, by_parts,
    parts, standing,
)

NUMBER = r"(?:0|-?[1-9][0-9]{0,29})(?:/[1-9][0-9]{0,29})?"
POINT = re.compile(f"({NUMBER}),({NUMBER})")


def model_point(p):
    x, y = parts(p)
    return f"{x},{y}"


def model_heap(points):
    return " ".join(model_point(p) for p in by_parts(points))


def model_motion_text(motion):
    turn, shift, flip = motion
    return f"{model_point(turn)} {model_point(shift)}{' flip' * flip}"


def model_point_read(text):
    """The parts of a point that is written as it must be; None else."""
    found = POINT.fullmatch(text)
    if found is None or any(str(Fraction(part)) != part for part in found.groups()):
        return None
    return tuple(map(Fraction, found.groups()))


def model_heap_read(text):
    places = [model_point_read(piece) for piece in text.split(" ")]
    if None in places or not 2 <= len(places) <= 14 or places != sorted(set(places)):
        return None
    return tuple(standing(*place) for place in places)


def model_motion_read(text):
    flip = 1 if text.endswith(" flip") else 0
    places = [model_point_read(piece) for piece in text.removesuffix(" flip").split(" ")]
    if None in places or len(places) != 2 or places[0][0] ** 2 + places[0][1] ** 2 != 1:
        return None
    return (standing(*places[0]), standing(*places[1]), flip)


def changed(text):
    """The text with one sign less, more, twice, exchanged or turned to another one."""
    for at in range(len(text) + 1):
        for sign in "0123456789-/, +fF.e_\n\t\u0663\u00b2":
            yield text[:at] + sign + text[at:]
            yield text[:at] + sign + text[at + 1:]
        yield text[:at] + text[at + 1:]
        yield text[:at] + text[at:at + 2][::-1] + text[at + 2:]
        yield text[:at]
        yield text[at:]


class TestHeapText(unittest.TestCase):
    def test_by_hand(self):
        self.assertEqual(heap_text(SQUARE), "0,0 0,1 1,0 1,1")
        self.assertEqual(heap_text([(3, -2, 1), (-7, 5, 1)]), "-7,5 3,-2")
        self.assertEqual(heap_text([(1, 1, 2), (0, -5, 7), (-3, 4, 6)]), "-1/2,2/3 0,-5/7 1/2,1/2")
        self.assertEqual(heap_text([(1, 0, 2), (0, 1, 2), (1, 2, 2)]), "0,1/2 1/2,0 1/2,1")
        self.assertEqual(heap_text([(-10, 100, 1), (-1, -2, 3)]), "-10,100 -1/3,-2/3")

    def test_each_share_in_its_own_lowest_terms(self):
        self.assertEqual(heap_text([(2, 3, 6), (6, 1, 3)]), "1/3,1/2 2,1/3")

    def test_as_the_model_tells(self):
        for points in HEAPS:
            for motion in FEW_MOTIONS:
                there = moved(motion, points)
                self.assertEqual(heap_text(there), model_heap(there))
                self.assertEqual(heap_text(list(there)[::-1]), model_heap(there))

    def test_numbers_of_any_size(self):
        for figures in (59, 60, 61, 119, 120, 121, 4400, 5000):
            digits = "7" + "0" * (figures - 2) + "3"
            great = 0
            for at in range(0, figures, 100):
                piece = digits[at:at + 100]
                great = great * 10 ** len(piece) + int(piece)
            self.assertEqual(heap_text([(great, -great, 1), (0, 0, 1)]), f"0,0 {digits},-{digits}")
            self.assertEqual(heap_text([(1, 0, great), (0, 0, 1)]), f"0,0 1/{digits},0")
        self.assertEqual(heap_text([(10 ** 60, -(10 ** 60), 1), (10 ** 60 - 1, 10 ** 120, 1)]),
                         f"{10 ** 60 - 1},{10 ** 120} {10 ** 60},-{10 ** 60}")


class TestMotionText(unittest.TestCase):
    def test_by_hand(self):
        self.assertEqual(motion_text(((1, 0, 1), (0, 0, 1), 0)), "1,0 0,0")
        self.assertEqual(motion_text(((1, 0, 1), (0, 0, 1), 1)), "1,0 0,0 flip")
        self.assertEqual(motion_text(((3, -4, 5), (1, -1, 2), 0)), "3/5,-4/5 1/2,-1/2")
        self.assertEqual(motion_text(((0, -1, 1), (-7, 4, 2), 1)), "0,-1 -7/2,2 flip")

    def test_as_the_model_tells(self):
        for motion in MOTIONS:
            self.assertEqual(motion_text(motion), model_motion_text(motion))


class TestReadAgain(unittest.TestCase):
    def test_heaps_by_hand(self):
        self.assertEqual(heap_read("0,0 0,1 1,0 1,1"), ((0, 0, 1), (0, 1, 1), (1, 0, 1), (1, 1, 1)))
        self.assertEqual(heap_read("-1/2,2/3 0,-5/7"), ((-3, 4, 6), (0, -5, 7)))
        self.assertEqual(heap_read("1/3,1/2 1/2,1/3"), ((2, 3, 6), (3, 2, 6)))

    def test_motions_by_hand(self):
        self.assertEqual(motion_read("1,0 0,0"), ((1, 0, 1), (0, 0, 1), 0))
        self.assertEqual(motion_read("3/5,-4/5 1/2,-1/3 flip"), ((3, -4, 5), (3, -2, 6), 1))

    def test_each_heap_written(self):
        for points in HEAPS:
            for motion in FEW_MOTIONS[::3]:
                there = moved(motion, points)
                if max(len(figures) for figures in re.findall(r"\d+", heap_text(there))) > 30:
                    continue
                told = heap_read(heap_text(there))
                self.assertEqual(told, there)
                self.assertIs(type(told), tuple)
        for many in range(2, 15):
            self.assertEqual(heap_read(heap_text(GRID[:many])), heap(GRID[:many]))

    def test_each_motion_written(self):
        for motion in MOTIONS:
            self.assertEqual(motion_read(motion_text(motion)), motion)
            self.assertIs(type(motion_read(motion_text(motion))), tuple)

    def test_up_to_thirty_figures(self):
        great, below = int("9" * 30), 2 ** 99
        points = ((-great, great, 1), (0, -great, 1), (great, 0, below), (great, great, 1))
        self.assertEqual(heap_read(heap_text(points)), heap(points))
        self.assertEqual(heap_read(f"-1/{great},0 0,-1/{great} {great}/{below},1/{great - 1}"),
                         tuple(standing(*place) for place in (
                             (Fraction(-1, great), Fraction(0)), (Fraction(0), Fraction(-1, great)),
                             (Fraction(great, below), Fraction(1, great - 1)))))
        motion = ((0, 1, 1), (-great, great, below), 1)
        self.assertEqual(motion_read(motion_text(motion)), motion)

    def test_more_figures_are_refused(self):
        for many in (31, 32, 60, 61, 300, 5000, 100000):
            great = "1" + "0" * (many - 1)
            for text in (f"0,0 {great},0", f"-{great},0 0,0", f"0,0 0,{great}", f"0,-{great} 0,0", f"0,0 1/{great},0",
                         f"0,0 0,1/{great}", f"0,0 {great}/7,0", f"-{great}/7,0 0,0"):
                self.assertRaises(BadText, heap_read, text)
            for text in (f"1,0 {great},0", f"1,0 0,-{great} flip", f"1,0 1/{great},0", f"1,0 0,-{great}/7"):
                self.assertRaises(BadText, motion_read, text)
        self.assertEqual(heap_read("0,0 1" + "0" * 29 + ",0"), ((0, 0, 1), (10 ** 29, 0, 1)))

    def test_turns_with_many_figures(self):
        a, b = 10 ** 14 + 1, 10 ** 13 + 2
        turn = standing(Fraction(a * a - b * b, a * a + b * b), Fraction(2 * a * b, a * a + b * b))
        self.assertEqual(motion_read(motion_text((turn, (0, 0, 1), 0))), (turn, (0, 0, 1), 0))
        a, b = 10 ** 15 + 1, 10 ** 14 + 2
        turn = standing(Fraction(a * a - b * b, a * a + b * b), Fraction(2 * a * b, a * a + b * b))
        self.assertRaises(BadText, motion_read, motion_text((turn, (0, 0, 1), 0)))


class TestWrittenOtherwise(unittest.TestCase):
    def test_heaps(self):
        for text in (
            "", " ", "0", "0,0", "0,0 ", " 0,0", "0,0  1,0", " 0,0 1,0", "0,0 1,0 ", "0,0 1,0\n", "\n0,0 1,0",
            "0,01,0", "0,0\t1,0", "0,0\n1,0", "0,0, 1,0", "0, 0 1,0", "0 ,0 1,0", "0,0;1,0", "(0,0) (1,0)", "0 0 1 0",
            "+0,0 1,0", "0,0 +1,0", "0,+0 1,0", "-0,0 1,0", "0,-0 1,0", "0,0 1,-0", "0,0 -0/1,1", "0,0 --1,0", "- 1,0 0,0",
            "00,0 1,0", "0,00 1,0", "0,0 01,0", "0,0 1,00", "-01,0 0,0", "0,0 01/2,0", "0,0 1/02,0",
            "0,0 2/4,0", "0,0 0,6/9", "-2/4,0 0,0", "0,0 10/5,0", "0,0 1/1,0", "0,0 2/1,0", "0,0 3/3,0", "0/1,0 1,0",
            "0/5,0 1,0", "0,0 1,0/2", "0,0 1/0,0", "0,0 0/0,1", "0,0 1/-2,0", "0,0 -1/-2,0", "0,0 1/+2,0", "0,0 1/2/3,0",
            "0,0 1/,0", "0,0 /2,0", "0,0 /,0", "0,0 1//2,0", "0,0 1 /2,0", "0,0 1/ 2,0",
            "1,0 0,0", "0,1 0,0", "0,0 2,0 1,0", "1/2,0 1/3,0", "0,0 0,0", "0,0 1,0 1,0", "0,0 0,0 1,0",
            "0,0 1", "0,0 ,1", "0,0 1,", "0,0 ,", "0,0 1,2,3", "0,0 1,0 flip", "1,0 flip", "0,0 a,0", "0,0 1,b", "0,0 -,0",
            "0,0 1.0,0", "0,0 0.5,0", "0,0 1e3,0", "0,0 1_0,0", "0,0 0x1,0", "0,0 \u0661,0", "0,0 \uff11,0", "0,0 \u00b2,0",
            "0,0 1,\u0663", "\u0660,0 1,0", "0,0 \u22121,0", "0,0\u00a01,0", "0,0\u30001,0", "0,0 1,0\x00", "0,0 1,0 # x",
        ):
            with self.subTest(text=text):
                self.assertRaises(BadText, heap_read, text)

    def test_how_many_points(self):
        for many in (1, 15, 16, 100):
            self.assertRaises(BadText, heap_read, " ".join(f"{x},0" for x in range(many)))
        self.assertEqual(len(heap_read(" ".join(f"{x},0" for x in range(14)))), 14)

    def test_motions(self):
        for text in (
            "", " ", "flip", "1,0", "1,0 ", " 1,0 0,0", "1,0  0,0", "1,0 0,0 ", "1,0 0,0\n", "1,0 0,0 0", "1,0 0,0 1",
            "1,0 0,0  flip", "1,0 0,0 flip ", "1,0 0,0flip", "1,0 0,0 Flip", "1,0 0,0 FLIP", "1,0 0,0 fli", "1,0 0,0 flipp",
            "1,0 0,0 flip flip", "flip 1,0 0,0", "1,0 flip", "1,0 flip 0,0", "1,0 0,0 1,0", "1,0 0,0 0,0 flip", "flip flip",
            "1,0 0,0 none", "1,0\t0,0", "1,0,0,0", "1,00,0", "1,0 0,0\tflip", "1,0 0,0\nflip", "1,0 0,0 \uff46lip",
            "0,0 0,0", "2,0 0,0", "1,1 0,0", "1/2,0 0,0", "3/5,3/5 0,0", "3,4 0,0 flip", "3/5,4/6 0,0", "-1,1 5,5",
            "6/10,8/10 0,0", "3/5,8/10 0,0", "+1,0 0,0", "1,-0 0,0", "-0,1 0,0", "01,0 0,0", "1/1,0 0,0", "2/2,0 0,0",
            "1,0 -0,0", "1,0 0,-0", "1,0 00,0", "1,0 2/4,0", "1,0 1/0,0", "1,0 1/-2,0", "1,0 0,5/1 flip", "1,0 1.0,0",
            "\u0661,0 0,0", "1,0 \u0660,0", "-3/-5,4/5 0,0", "3/5,4/-5 0,0", "1,0 0", "1 0,0", "1,0 ,", ", 0,0",
        ):
            with self.subTest(text=text):
                self.assertRaises(BadText, motion_read, text)

    def test_heaps_with_something_turned(self):
        for text in ("-7,5 3,-2", "-1/2,2/3 0,-5/7 10,0", "0,0 0,1 1,0 1,1", heap_text(WITH_SHARES), heap_text(ROW)):
            self.assertIsNotNone(model_heap_read(text))
            for other in {*changed(text), text}:
                self.assert_reads(heap_read, other, model_heap_read(other))

    def test_motions_with_something_turned(self):
        for text in ("1,0 0,0", "0,-1 5,-7/3 flip", "3/5,-4/5 1/2,-10", "-12/13,5/13 0,0 flip"):
            self.assertIsNotNone(model_motion_read(text))
            for other in {*changed(text), text}:
                self.assert_reads(motion_read, other, model_motion_read(other))

    def assert_reads(self, read, text, told):
        if told is None:
            with self.assertRaises(BadText, msg=text):
                read(text)
        else:
            self.assertEqual(read(text), told)

    def test_no_texts(self):
        for thing in NO_WHOLE_NUMBERS + [0, 1, b"0,0 1,0", b"1,0 0,0", ["0,0 1,0"], ("0,0", "1,0"), SQUARE, tuple(TWO),
                                         {"0,0 1,0": 1}, MOTIONS[0]]:
            self.assertRaises(BadText, heap_read, thing)
            self.assertRaises(BadText, motion_read, thing)

    def test_heaps_are_no_motions_and_motions_no_heaps(self):
        self.assertRaises(BadText, heap_read, motion_text(((0, 1, 1), (0, 0, 1), 1)))
        self.assertRaises(BadText, motion_read, heap_text(SQUARE))
        self.assertRaises(BadText, motion_read, heap_text(ROW))


class TestRefusals(unittest.TestCase):
    def test_no_heaps(self):
        for thing in NO_HEAPS:
            self.assertRaises(BadHeap, heap_text, thing)

    def test_no_motions(self):
        for thing in NO_MOTIONS:
            self.assertRaises(BadMotion, motion_text, thing)


if __name__ == "__main__":
    unittest.main()
