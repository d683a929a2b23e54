"""Every name of the interface, its arguments, and which refusal is told of several."""

import importlib
import inspect
import unittest
from itertools import product

from laidover.albums import Album
from laidover.errors import BadHeap, BadMotion, BadName, BadNumber, BadPairs, BadPoint, BadText, NoThing, OverError
from tests.samples import (
    NO_FLIPS, NO_HEAPS, NO_MOTIONS, NO_NAMES, NO_PARTNERS, NO_POINTS, NO_WHOLE_NUMBERS, SQUARE, UNEVEN, Prickly,
)

# For each name the kinds of its arguments; those behind a star are told as "many=" is, with their defaults.
INTERFACE = {
    "points": {
        "point": "number number number", "is_point": "thing", "is_ahead": "point point", "square_gap": "point point",
    },
    "motions": {
        "is_motion": "thing", "led": "motion point", "then": "motion motion", "back": "motion", "kind_of": "motion",
        "order_of": "motion", "center": "motion", "axis": "motion", "leading": "point point point point",
        "shifting": "point point", "turning": "point turn",
    },
    "heaps": {
        "is_heap": "thing", "heap": "heap", "moved": "motion heap", "mean": "heap", "gaps": "heap",
        "same_gaps": "heap heap", "widest": "heap",
    },
    "whole": {
        "laying": "heap heap", "symmetries": "heap", "alike": "heap heap", "turns_of": "heap", "mirrors_of": "heap",
        "is_handed": "heap", "heart": "heap", "orbits": "heap",
    },
    "forms": {"shape": "heap", "form": "heap", "similar": "heap heap", "scale": "heap heap"},
    "partly": {
        "laid": "motion heap heap", "strays": "motion heap heap", "at_least": "heap heap many=",
        "best_over": "heap heap flips=True", "shifts": "heap heap", "best_shift": "heap heap",
        "quarter_turns": "heap heap", "common_part": "heap heap",
    },
    "copies": {
        "placings": "heap heap", "copies": "heap heap", "apart_copies": "heap heap", "holds": "heap heap",
        "covering": "heap heap", "pairs_at": "heap square",
    },
    "squares": {
        "cost": "list list", "cost_behind": "motion list list", "nearest_shift": "list list",
        "nearest_turn": "list list flip=0", "turn_motion": "list list flip=0", "is_less": "pair pair",
        "paired": "list list", "apart": "heap heap",
    },
    "texts": {"heap_text": "heap", "motion_text": "motion", "heap_read": "text", "motion_read": "text"},
}

ALBUM = {
    "put": "new_name heap", "drop": "name", "move": "name motion", "shown": "name", "find": "heap", "find_shape": "heap",
    "way": "name name", "groups": "", "names": "", "undo": "",
}

# What is refused of each kind, the kinds in the order in which they are looked at.
REFUSED = {
    "new_name": (BadName, NO_NAMES), "name": (BadName, NO_NAMES + ["not there"]),
    "motion": (BadMotion, NO_MOTIONS), "heap": (BadHeap, NO_HEAPS),
    "point": (BadPoint, NO_POINTS), "turn": (BadPoint, NO_POINTS), "number": (BadPoint, NO_WHOLE_NUMBERS),
    "list": (BadPairs, NO_PARTNERS), "flip": (BadPairs, NO_FLIPS),
    "many": (BadNumber, NO_WHOLE_NUMBERS + [0, 1, 15, -2]), "flips": (BadNumber, [0, 1, None, "True", [], Prickly()]),
    "text": (BadText, NO_WHOLE_NUMBERS + ["0,0", "x"]),
}

GOOD = {
    "new_name": ["new", "square"], "name": ["square", "uneven"], "motion": [((3, 4, 5), (1, -1, 2), 1)],
    "heap": [SQUARE, UNEVEN], "point": [(0, 0, 1), (1, 0, 1)], "turn": [(0, 1, 1), (5, 0, 1)], "number": [1, 2],
    "list": [SQUARE], "flip": [0, 1], "many": [2], "flips": [True, False], "square": [(1, 1)], "text": ["0,0 1,0"],
    "pair": [((1, 1), (2, 1))], "thing": [None],
}


def functions():
    for module, names in INTERFACE.items():
        for name, kinds in names.items():
            yield getattr(importlib.import_module(f"laidover.{module}"), name), kinds.split()


def album_methods():
    for name, kinds in ALBUM.items():
        album = Album()
        album.put("square", SQUARE)
        album.put("uneven", UNEVEN)
        yield getattr(album, name), kinds.split()


class TestNames(unittest.TestCase):
    def assert_takes(self, function, kinds):
        parameters = list(inspect.signature(function).parameters.values())
        self.assertEqual(len(parameters), len(kinds), function)
        for parameter, kind in zip(parameters, kinds):
            if "=" in kind:
                name, _, default = kind.partition("=")
                self.assertEqual((parameter.name, parameter.kind), (name, parameter.KEYWORD_ONLY))
                told = "" if parameter.default is parameter.empty else repr(parameter.default)
                self.assertEqual(told, default)
            else:
                self.assertEqual(parameter.kind, parameter.POSITIONAL_OR_KEYWORD)

    def test_functions(self):
        for function, kinds in functions():
            with self.subTest(name=function.__name__):
                self.assert_takes(function, kinds)

    def test_defaults_stand_where_they_are_listed_alone(self):
        for function, kinds in functions():
            for parameter in inspect.signature(function).parameters.values():
                if parameter.kind == parameter.POSITIONAL_OR_KEYWORD:
                    is_w = function.__name__ == "point" and parameter.name == "w"
                    self.assertEqual(parameter.default, 1 if is_w else parameter.empty)

    def test_album(self):
        self.assertEqual(len(inspect.signature(Album).parameters), 0)
        for method, kinds in album_methods():
            with self.subTest(name=method.__name__):
                self.assert_takes(method, kinds)
                self.assertIn(method.__name__, vars(Album))
        self.assertIn("__len__", vars(Album))

    def test_named_ones_are_not_handed_in_by_place(self):
        for function, kinds in functions():
            if any("=" in kind for kind in kinds):
                with self.assertRaises(TypeError):
                    function(*[GOOD[kind.partition("=")[0]][0] for kind in kinds])


class TestRefusals(unittest.TestCase):
    def ask(self, function, kinds, handed):
        plain = [thing for kind, thing in zip(kinds, handed) if "=" not in kind]
        named = {kind.partition("=")[0]: thing for kind, thing in zip(kinds, handed) if "=" in kind}
        return function(*plain, **named)

    def assert_first_refusal(self, function, kinds):
        """Each choice of places that have something wrong is refused by the first kind of these."""
        bare = [kind.partition("=")[0] for kind in kinds]
        for wrong in product((False, True), repeat=len(kinds)):
            ranks = [kind for kind in REFUSED if (kind, True) in list(zip(bare, wrong))]
            if not ranks or any(kind not in REFUSED for kind, bad in zip(bare, wrong) if bad):
                continue
            for turn in range(60):
                # Things of unlike places go together by unlike steps, so that many meet.
                handed = [
                    REFUSED[kind][1][(turn * (2 * at + 1)) % len(REFUSED[kind][1])] if bad
                    else GOOD[kind][turn % len(GOOD[kind])]
                    for at, (kind, bad) in enumerate(zip(bare, wrong))
                ]
                with self.assertRaises(REFUSED[ranks[0]][0], msg=(function.__name__, wrong, turn)):
                    self.ask(function, kinds, handed)

    def test_functions(self):
        for function, kinds in functions():
            with self.subTest(name=function.__name__):
                self.assert_first_refusal(function, kinds)

    def test_album(self):
        for method, kinds in album_methods():
            with self.subTest(name=method.__name__):
                self.assert_first_refusal(method, kinds)

    def test_points_are_looked_at_ahead_of_turns(self):
        from laidover.motions import turning
        for thing in NO_POINTS:
            with self.assertRaises(BadPoint):
                turning(thing, (1, 1, 1))
        with self.assertRaises(BadMotion):
            turning((0, 0, 1), (1, 1, 1))

    def test_refusals_are_caught_as_one(self):
        for refusal in (BadNumber, BadPoint, BadMotion, BadHeap, BadPairs, BadName, BadText, NoThing):
            self.assertTrue(issubclass(refusal, OverError))
            self.assertTrue(issubclass(refusal, ValueError))

    def test_things_of_any_kind_are_told_apart(self):
        for function, kinds in functions():
            if kinds == ["thing"]:
                for thing in NO_WHOLE_NUMBERS + [0, "x", Prickly(), [Prickly()], (Prickly(),) * 3]:
                    self.assertIs(function(thing), False)


if __name__ == "__main__":
    unittest.main()
