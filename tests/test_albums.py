import copy
import random
import unittest

from laidover.albums import Album
from laidover.errors import BadHeap, BadMotion, BadName, NoThing
from laidover.forms import similar
from laidover.heaps import heap, moved
from laidover.whole import alike, symmetries
from tests.samples import (
    EVEN_SIDED, FEW_MOTIONS, GRID, HEAPS, MOTIONS, NO_HEAPS, NO_MOTIONS, NO_NAMES, PINWHEEL, RECTANGLE, RHOMBUS, RING,
    ROW, SLANTED, SQUARE, TILTED_SQUARE, TWO, UNEVEN, UNEVEN_ROW, WITH_SHARES, scaled, slow_laying,
)

MOTION = ((3, 4, 5), (1, -1, 2), 1)
STAY = ((1, 0, 1), (0, 0, 1), 0)
METHODS = ["put", "drop", "move", "shown", "find", "find_shape", "way", "groups", "names", "undo", "__len__"]
ASKED_FOR = [SQUARE, RECTANGLE, UNEVEN, ROW, TWO, scaled((3, 0, 1), SQUARE), scaled((1, 2, 3), UNEVEN), WITH_SHARES]


def filled():
    """An album with groups, similar heaps and a few deeds behind it."""
    album = Album()
    album.put("b", SQUARE)
    album.put("d", UNEVEN)
    album.put("a", TILTED_SQUARE)
    album.put("e", scaled((2, 0, 1), SQUARE))
    album.put("c", moved(MOTION, UNEVEN))
    return album


def way_or_none(album, one, other):
    try:
        return album.way(one, other)
    except NoThing:
        return None


def everything(album):
    """All that an album tells."""
    names = album.names()
    return (
        len(album), names, [album.shown(name) for name in names], album.groups(),
        [album.find(points) for points in ASKED_FOR], [album.find_shape(points) for points in ASKED_FOR],
        [way_or_none(album, one, other) for one in names for other in names],
    )


def expected(heaps):
    """All that an album with these heaps should tell, by looking at all heaps."""
    names = sorted(heaps)
    groups = []
    for name in names:
        for group in groups:
            if alike(heaps[group[0]], heaps[name]):
                group.append(name)
                break
        else:
            groups.append([name])
    ways = {}
    for one in names:
        for other in names:
            ways[one, other] = (slow_laying(heaps[one], heaps[other]) or [None])[0]
    return (
        len(names), names, [heap(heaps[name]) for name in names], groups,
        [[name for name in names if alike(heaps[name], points)] for points in ASKED_FOR],
        [[name for name in names if similar(heaps[name], points)] for points in ASKED_FOR],
        [ways[one, other] for one in names for other in names],
    )


class TestAlbum(unittest.TestCase):
    def test_methods_stand_in_the_class_itself(self):
        for name in METHODS:
            self.assertIn(name, vars(Album))

    def test_an_empty_one(self):
        album = Album()
        self.assertEqual(len(album), 0)
        self.assertEqual((album.names(), album.groups(), album.find(SQUARE), album.find_shape(SQUARE)), ([], [], [], []))
        with self.assertRaises(NoThing):
            album.undo()

    def test_two_albums_keep_their_own(self):
        one, other = Album(), Album()
        one.put("a", SQUARE)
        self.assertEqual((len(one), len(other)), (1, 0))
        with self.assertRaises(NoThing):
            other.undo()

    def test_put_tells_all_others_alike_rising(self):
        album = Album()
        self.assertEqual(album.put("m", SQUARE), [])
        self.assertEqual(album.put("z", TILTED_SQUARE), ["m"])
        self.assertEqual(album.put("u", UNEVEN), [])
        self.assertEqual(album.put("big", scaled((2, 0, 1), SQUARE)), [])
        self.assertEqual(album.put("M", SQUARE), ["m", "z"])
        self.assertEqual(album.put("10", SQUARE[::-1]), ["M", "m", "z"])
        self.assertEqual(album.put("9", SQUARE), ["10", "M", "m", "z"])
        self.assertEqual(album.put("n", moved(MOTION, UNEVEN)), ["u"])

    def test_put_in_place(self):
        album = filled()
        self.assertEqual(album.put("a", UNEVEN), ["c", "d"])
        self.assertEqual(len(album), 5)
        self.assertEqual(album.shown("a"), heap(UNEVEN))
        self.assertEqual(album.find(SQUARE), ["b"])
        self.assertEqual(album.put("a", UNEVEN), ["c", "d"])
        self.assertEqual(album.put("b", SQUARE), [])
        self.assertEqual(len(album), 5)

    def test_any_text_is_a_name(self):
        album = Album()
        names = [" ", "\n", "a b", "0", "None", "\u00e9", "a" * 1000, "\x00"]
        for at, name in enumerate(names):
            album.put(name, SQUARE)
            self.assertEqual(len(album), at + 1)
        self.assertEqual(album.names(), sorted(names))
        self.assertEqual(album.groups(), [sorted(names)])

    def test_drop(self):
        album = filled()
        self.assertIsNone(album.drop("b"))
        self.assertEqual((len(album), album.names()), (4, ["a", "c", "d", "e"]))
        self.assertEqual(album.find(SQUARE), ["a"])
        with self.assertRaises(BadName):
            album.drop("b")
        self.assertEqual(album.put("b", SQUARE), ["a"])

    def test_move(self):
        for points in HEAPS:
            for motion in FEW_MOTIONS[::4]:
                album = Album()
                album.put("a", points)
                album.put("b", points)
                self.assertIsNone(album.move("a", motion))
                self.assertEqual(album.shown("a"), moved(motion, points))
                self.assertEqual(album.shown("b"), heap(points))
                self.assertEqual(album.find(points), ["a", "b"])
                self.assertEqual(album.find_shape(points), ["a", "b"])
                self.assertEqual(album.groups(), [["a", "b"]])
                self.assertEqual(len(album), 2)

    def test_moved_twice(self):
        album = Album()
        album.put("a", UNEVEN)
        album.move("a", MOTION)
        album.move("a", MOTIONS[20])
        self.assertEqual(album.shown("a"), moved(MOTIONS[20], moved(MOTION, UNEVEN)))
        self.assertEqual(moved(album.way("a", "a"), UNEVEN), heap(UNEVEN))

    def test_shown_is_in_order(self):
        album = Album()
        for points in HEAPS:
            album.put("a", list(points)[::-1])
            self.assertEqual(album.shown("a"), heap(points))
            self.assertIs(type(album.shown("a")), tuple)

    def test_find(self):
        album = filled()
        self.assertEqual(album.find(SQUARE), ["a", "b"])
        self.assertEqual(album.find(moved(MOTION, SQUARE)), ["a", "b"])
        self.assertEqual(album.find(UNEVEN), ["c", "d"])
        self.assertEqual(album.find(scaled((0, 2, 1), SQUARE)), ["e"])
        self.assertEqual(album.find(RECTANGLE), [])
        self.assertEqual(album.find(SQUARE[:3]), [])

    def test_find_shape(self):
        album = filled()
        self.assertEqual(album.find_shape(SQUARE), ["a", "b", "e"])
        self.assertEqual(album.find_shape(scaled((1, 5, 3), TILTED_SQUARE)), ["a", "b", "e"])
        self.assertEqual(album.find_shape(scaled((7, 0, 1), UNEVEN)), ["c", "d"])
        self.assertEqual(album.find_shape(RECTANGLE), [])

    def test_the_same_gaps_are_not_enough(self):
        one = [(0, 0, 1), (1, 0, 1), (4, 0, 1), (10, 0, 1), (12, 0, 1), (17, 0, 1)]
        other = [(0, 0, 1), (1, 0, 1), (8, 0, 1), (11, 0, 1), (13, 0, 1), (17, 0, 1)]
        album = Album()
        album.put("one", one)
        self.assertEqual(album.put("other", other), [])
        self.assertEqual(album.groups(), [["one"], ["other"]])
        with self.assertRaises(NoThing):
            album.way("one", "other")

    def test_way(self):
        album = filled()
        self.assertEqual(album.way("b", "a"), slow_laying(SQUARE, TILTED_SQUARE)[0])
        self.assertEqual(album.way("a", "b"), slow_laying(TILTED_SQUARE, SQUARE)[0])
        self.assertEqual(album.way("d", "c"), MOTION)
        self.assertEqual(album.way("b", "b"), symmetries(SQUARE)[0])
        self.assertEqual(album.way("d", "d"), STAY)
        for one, other in (("a", "d"), ("c", "b"), ("b", "e"), ("e", "a")):
            with self.assertRaises(NoThing):
                album.way(one, other)

    def test_groups(self):
        album = filled()
        self.assertEqual(album.groups(), [["a", "b"], ["c", "d"], ["e"]])
        album.drop("a")
        self.assertEqual(album.groups(), [["b"], ["c", "d"], ["e"]])
        album.put("a", RHOMBUS)
        album.put("f", SQUARE)
        self.assertEqual(album.groups(), [["a"], ["b", "f"], ["c", "d"], ["e"]])
        album.put("c", SQUARE)
        self.assertEqual(album.groups(), [["a"], ["b", "c", "f"], ["d"], ["e"]])

    def test_kinds_of_what_is_told(self):
        album = filled()
        for told in (album.put("x", SQUARE), album.find(SQUARE), album.find_shape(SQUARE), album.groups(), album.names()):
            self.assertIs(type(told), list)
        self.assertEqual({type(group) for group in album.groups()}, {list})
        self.assertIs(type(album.way("a", "b")), tuple)

    def test_all_heaps_as_looking_at_all_tells(self):
        album, heaps = Album(), {}
        for at, points in enumerate(HEAPS):
            for to, motion in enumerate(FEW_MOTIONS[at % 3::9]):
                name = f"{(at * 7 + to * 5) % 31} of {len(points)}"
                heaps[name] = moved(motion, points)
                album.put(name, heaps[name])
        names = sorted(heaps)
        self.assertEqual(album.names(), names)
        for points in HEAPS:
            self.assertEqual(album.find(points), [name for name in names if alike(heaps[name], points)])
            self.assertEqual(album.find_shape(points), [name for name in names if similar(heaps[name], points)])


class TestUndo(unittest.TestCase):
    def test_each_deed(self):
        for deed in (
            lambda album: album.put("new", SQUARE), lambda album: album.put("b", UNEVEN),
            lambda album: album.put("b", SQUARE), lambda album: album.drop("c"),
            lambda album: album.move("d", MOTION), lambda album: album.move("d", STAY),
        ):
            album = filled()
            before = everything(album)
            deed(album)
            self.assertIsNone(album.undo())
            self.assertEqual(everything(album), before)
            self.assertEqual(len(album.names()), 5)
            album.undo()
            self.assertEqual(album.names(), ["a", "b", "d", "e"])

    def test_the_last_one_first(self):
        album = Album()
        seen = [everything(album)]
        for deed, handed in (
            (album.put, ("a", SQUARE)), (album.put, ("b", UNEVEN)), (album.move, ("a", MOTION)),
            (album.put, ("a", RHOMBUS)), (album.drop, ("b",)), (album.put, ("b", ROW)), (album.move, ("b", MOTION)),
            (album.drop, ("a",)), (album.drop, ("b",)), (album.put, ("b", SQUARE)),
        ):
            deed(*handed)
            seen.append(everything(album))
        while len(seen) > 1:
            self.assertEqual(everything(album), seen.pop())
            album.undo()
        self.assertEqual(everything(album), seen[0])
        for again in range(3):
            with self.assertRaises(NoThing):
                album.undo()
            self.assertEqual(everything(album), seen[0])

    def test_an_undo_is_no_deed(self):
        album = Album()
        album.put("a", SQUARE)
        album.put("a", UNEVEN)
        album.undo()
        self.assertEqual(album.shown("a"), heap(SQUARE))
        album.undo()
        self.assertEqual(album.names(), [])
        with self.assertRaises(NoThing):
            album.undo()

    def test_asking_is_no_deed(self):
        album = Album()
        album.put("a", SQUARE)
        everything(album)
        album.undo()
        self.assertEqual(len(album), 0)

    def test_deeds_behind_undos(self):
        album = filled()
        album.undo()
        album.put("z", SQUARE)
        album.undo()
        album.undo()
        self.assertEqual(album.names(), ["a", "b", "d"])

    def test_many_deeds_as_a_model_tells(self):
        drawn = random.Random(8)
        some = [SQUARE, TILTED_SQUARE, UNEVEN, moved(MOTION, UNEVEN), scaled((2, 0, 1), SQUARE), EVEN_SIDED, ROW,
                UNEVEN_ROW, SLANTED, TWO, scaled((1, 1, 2), ROW), RECTANGLE]
        for run in range(4):
            album, heaps, history = Album(), {}, []
            for step in range(60):
                deed = drawn.choice(["put", "put", "put", "drop", "move", "undo", "undo"])
                name = drawn.choice("abcdef")
                if deed == "put":
                    points = drawn.choice(some)
                    others = [other for other in sorted(heaps) if other != name and alike(heaps[other], points)]
                    history.append(dict(heaps))
                    heaps[name] = heap(points)
                    self.assertEqual(album.put(name, points), others)
                elif deed == "undo" and history:
                    heaps = history.pop()
                    album.undo()
                elif deed == "undo":
                    self.assertRaises(NoThing, album.undo)
                elif name not in heaps:
                    self.assertRaises(BadName, album.drop, name)
                    self.assertRaises(BadName, album.move, name, MOTION)
                elif deed == "drop":
                    history.append(dict(heaps))
                    del heaps[name]
                    album.drop(name)
                else:
                    motion = drawn.choice(MOTIONS)
                    history.append(dict(heaps))
                    heaps[name] = moved(motion, heaps[name])
                    album.move(name, motion)
                if step % 4 == 0:
                    self.assertEqual(everything(album), expected(heaps))
                self.assertEqual((album.names(), len(album)), (sorted(heaps), len(heaps)))
            while history:
                heaps = history.pop()
                album.undo()
                self.assertEqual(album.names(), sorted(heaps))
                self.assertEqual([album.shown(name) for name in album.names()], [heaps[name] for name in sorted(heaps)])
            self.assertRaises(NoThing, album.undo)


class TestCopiesAreKept(unittest.TestCase):
    def test_what_was_handed_in_may_be_changed(self):
        album = filled()
        handed = list(SQUARE)
        album.put("x", handed)
        before = everything(album)
        handed.append((9, 9, 1))
        handed.reverse()
        self.assertEqual(everything(album), before)
        handed.clear()
        self.assertEqual(everything(album), before)
        asked = list(UNEVEN)
        album.find(asked)
        album.find_shape(asked)
        asked.clear()
        self.assertEqual(everything(album), before)
        album.drop("x")
        album.undo()
        self.assertEqual(everything(album), before)

    def test_what_was_handed_in_is_as_ahead(self):
        for points in HEAPS:
            handed = list(points)
            album = Album()
            album.put("a", handed)
            album.find(handed)
            album.find_shape(handed)
            album.move("a", MOTION)
            self.assertEqual(handed, list(points))

    def test_what_was_told_may_be_changed(self):
        album = filled()
        album.put("x", SQUARE)
        before = everything(album)
        album.undo()
        told = album.put("x", SQUARE)
        self.assertEqual(told, ["a", "b"])
        told.clear()
        for told in (album.names(), album.find(SQUARE), album.find_shape(SQUARE), album.groups()):
            self.assertNotEqual(told, [])
            told.reverse()
            told.append("spoilt")
        for group in album.groups():
            group.clear()
        self.assertEqual(everything(album), before)
        album.undo()
        album.undo()
        self.assertEqual(album.groups(), [["a", "b"], ["d"], ["e"]])


class TestRefusals(unittest.TestCase):
    def setUp(self):
        self.album = filled()
        self.before = everything(self.album)

    def assert_refuses(self, refusal, asked, *handed):
        with self.assertRaises(refusal):
            asked(*handed)
        self.assertEqual(self.album.names(), self.before[1])

    def tearDown(self):
        # Nothing that was refused is there, nor among what may be undone.
        self.assertEqual(everything(self.album), self.before)
        for left in (["a", "b", "d", "e"], ["a", "b", "d"], ["b", "d"], ["b"], []):
            self.album.undo()
            self.assertEqual(self.album.names(), left)
        with self.assertRaises(NoThing):
            self.album.undo()

    def test_no_names(self):
        for thing in NO_NAMES:
            self.assert_refuses(BadName, self.album.put, thing, SQUARE)

    def test_none_there(self):
        for thing in NO_NAMES + ["x", "A", " a", "a ", "aa", b"a", ("a",), ["a"]]:
            self.assert_refuses(BadName, self.album.drop, thing)
            self.assert_refuses(BadName, self.album.move, thing, MOTION)
            self.assert_refuses(BadName, self.album.shown, thing)
            self.assert_refuses(BadName, self.album.way, thing, "a")
            self.assert_refuses(BadName, self.album.way, "a", thing)
            self.assert_refuses(BadName, self.album.way, thing, thing)

    def test_no_heaps(self):
        for thing in NO_HEAPS:
            self.assert_refuses(BadHeap, self.album.put, "a", thing)
            self.assert_refuses(BadHeap, self.album.put, "x", thing)
            self.assert_refuses(BadHeap, self.album.find, thing)
            self.assert_refuses(BadHeap, self.album.find_shape, thing)

    def test_no_motions(self):
        for thing in NO_MOTIONS:
            self.assert_refuses(BadMotion, self.album.move, "a", thing)

    def test_names_are_looked_at_ahead_of_heaps_and_motions(self):
        for name in NO_NAMES:
            for thing in NO_HEAPS[::3]:
                self.assert_refuses(BadName, self.album.put, name, thing)
        for name in NO_NAMES + ["x"]:
            for thing in NO_MOTIONS[::3]:
                self.assert_refuses(BadName, self.album.move, name, thing)

    def test_names_are_looked_at_ahead_of_ways(self):
        self.assert_refuses(BadName, self.album.way, "a", "x")
        self.assert_refuses(BadName, self.album.way, "x", "a")
        self.assert_refuses(NoThing, self.album.way, "a", "c")

    def test_refused_lists_stay(self):
        for thing in ([(2, 0, 1), (1, 0, 1), (2, 0, 1)], [[1, 0, 1], (0, 0, 1)], {1: [2]}):
            kept = copy.deepcopy(thing)
            self.assert_refuses(BadHeap, self.album.put, "a", thing)
            self.assertEqual(thing, kept)


class TestGreatOnes(unittest.TestCase):
    def test_many_names(self):
        album = Album()
        for at in range(200):
            points = [GRID, RING, PINWHEEL, WITH_SHARES][at % 4]
            self.assertEqual(len(album.put(str(at), points)), at // 4)
        self.assertEqual(len(album), 200)
        self.assertEqual([len(group) for group in album.groups()], [50] * 4)
        for at in range(200):
            album.undo()
        self.assertEqual(album.names(), [])


if __name__ == "__main__":
    unittest.main()
