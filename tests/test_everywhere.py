"""[2], [3], [4]: what holds of every function of the interface."""

import copy
import importlib
import inspect
import unittest

from tailswap.errors import (
    NoAt, NoBoard, NoCuts, NoEffect, NoFrame, NoGoal, NoJoints, NoPlace, NoPrices, NoRibbon, NoRow, NoText, NoTimes,
    NoWishes,
)
from tests.plain import DEEP, THINGS, plain_behind
from tests.refusals import RefusalCase

BOARD = ("abab", "efef", "ijkl")
ROW = ((0, 0, 1), (2, 1, 2), (3, 0, 2))
EFFECT = ((1, 0, 2), (1, 0, 2), (1, 2, 0), (0, 2, 1))
JOINTS = ((1, 0, 2), (0, 1, 2), (2, 1, 0), (1, 0, 2))
FIRST = ((1, 0, 2),) * 4
GOAL = ("efeb", "abkl", "ijaf")
PRICES = (2, None, 9, 1)

# The module, the function, its names and what is handed in, what it tells.
CALLS = [
    ("boards", "is_frame", {"thing": (3, 4)}, True),
    ("boards", "is_board", {"thing": BOARD}, True),
    ("boards", "frame_of", {"board": BOARD}, (3, 4)),
    ("rows", "behind", {"board": BOARD, "row": ROW}, ("efeb", "abkl", "ijaf")),
    ("rows", "does", {"frame": (3, 4), "row": ROW}, EFFECT),
    ("rows", "is_effect", {"frame": (3, 4), "thing": EFFECT}, True),
    ("rows", "led", {"board": BOARD, "effect": EFFECT}, ("efeb", "abkl", "ijaf")),
    ("rows", "undoing", {"frame": (3, 4), "row": ROW}, ((3, 0, 2), (2, 1, 2), (0, 0, 1))),
    ("far", "behind_far", {"board": BOARD, "row": ROW, "times": 5}, plain_behind(BOARD, ROW, 5)),
    ("far", "round_of", {"frame": (3, 4), "row": ROW}, 6),
    ("far", "round_from", {"board": BOARD, "row": ROW}, 6),
    ("joints", "joints", {"frame": (3, 4), "effect": EFFECT}, JOINTS),
    ("joints", "with_joints", {"frame": (3, 4), "joints": JOINTS}, EFFECT),
    ("joints", "fewest", {"frame": (3, 4), "effect": EFFECT}, 3),
    ("joints", "shortest", {"frame": (3, 4), "effect": EFFECT}, ROW),
    ("joints", "is_short", {"frame": (3, 4), "row": ROW}, True),
    ("counts", "how_many", {"frame": (3, 4), "effect": EFFECT, "cuts": 3}, 6),
    ("counts", "how_many_short", {"frame": (3, 4), "effect": EFFECT}, 6),
    ("counts", "how_many_take", {"frame": (3, 4), "cuts": 3}, 180),
    ("between", "is_between", {"frame": (3, 4), "one": FIRST, "other": EFFECT}, True),
    ("between", "how_many_between", {"frame": (3, 4), "effect": EFFECT}, 8),
    ("between", "how_many_follow", {"frame": (3, 4), "effect": EFFECT, "place": 2, "one": 0, "other": 2}, 4),
    ("order", "exchanged", {"frame": (3, 4), "row": ROW, "at": 1}, ((0, 0, 1), (3, 0, 1), (2, 1, 2))),
    ("order", "rising", {"frame": (3, 4), "row": ROW[::-1]}, ((0, 0, 1), (2, 0, 2), (3, 0, 1))),
    ("order", "parts", {"frame": (3, 4), "one": ROW, "other": ROW[:2]}, (3, 0)),
    ("exchanges", "leading", {"frame": (3, 4), "one": ROW, "other": ROW[:2]}, ("parts", 3, 0)),
    (
        "exchanges", "shows_leading",
        {"frame": (3, 4), "one": ROW, "other": ((2, 0, 2), (0, 0, 1), (3, 0, 2)), "thing": ("numbers", (0,))}, True,
    ),
    ("goals", "wish", {"board": BOARD, "goal": GOAL}, ("cuts", 3, ROW)),
    ("goals", "shows_wish", {"board": BOARD, "goal": GOAL, "thing": ("cuts", 3, ROW)}, True),
    ("prices", "priced", {"board": BOARD, "goal": GOAL, "prices": PRICES}, ("coins", 12, ROW)),
    ("prices", "shows_priced", {"board": BOARD, "goal": GOAL, "prices": PRICES, "thing": ("coins", 12, ROW)}, True),
    ("prices", "how_many_boards", {"board": BOARD, "prices": PRICES}, 216),
    ("ways", "how_many_lead", {"board": BOARD, "goal": GOAL, "cuts": 3}, 6),
    ("some", "some_wish", {"board": BOARD, "wishes": (None, "abkl", None)}, ("cuts", 2, ((0, 0, 1), (2, 1, 2)))),
    (
        "some", "shows_some",
        {"board": BOARD, "wishes": (None, "abkl", None), "thing": ("cuts", 2, ((2, 0, 2), (0, 0, 1)))}, True,
    ),
    ("some", "pieces", {"frame": (3, 4), "effect": EFFECT, "ribbon": 0}, ((1, 0, 2), (0, 3, 3))),
    ("some", "how_many_pieces", {"frame": (3, 4), "effect": EFFECT}, 7),
    ("texts", "board_text", {"board": BOARD}, "abab\nefef\nijkl\n"),
    ("texts", "row_text", {"frame": (3, 4), "row": ROW}, "0:0x1 2:1x2 3:0x2"),
    ("texts", "read_board", {"text": "abab\nefef\nijkl\n"}, BOARD),
    ("texts", "read_row", {"frame": (3, 4), "text": "0:0x1 2:1x2 3:0x2"}, ROW),
]

# The errors of a function in the order in which they are due, each with the name of what it refuses.
DUE = {
    "frame_of": [("board", NoBoard)],
    "behind": [("board", NoBoard), ("row", NoRow)],
    "does": [("frame", NoFrame), ("row", NoRow)],
    "is_effect": [("frame", NoFrame)],
    "led": [("board", NoBoard), ("effect", NoEffect)],
    "undoing": [("frame", NoFrame), ("row", NoRow)],
    "behind_far": [("board", NoBoard), ("row", NoRow), ("times", NoTimes)],
    "round_of": [("frame", NoFrame), ("row", NoRow)],
    "round_from": [("board", NoBoard), ("row", NoRow)],
    "joints": [("frame", NoFrame), ("effect", NoEffect)],
    "with_joints": [("frame", NoFrame), ("joints", NoJoints)],
    "fewest": [("frame", NoFrame), ("effect", NoEffect)],
    "shortest": [("frame", NoFrame), ("effect", NoEffect)],
    "is_short": [("frame", NoFrame), ("row", NoRow)],
    "how_many": [("frame", NoFrame), ("effect", NoEffect), ("cuts", NoCuts)],
    "how_many_short": [("frame", NoFrame), ("effect", NoEffect)],
    "how_many_take": [("frame", NoFrame), ("cuts", NoCuts)],
    "is_between": [("frame", NoFrame), ("one", NoEffect), ("other", NoEffect)],
    "how_many_between": [("frame", NoFrame), ("effect", NoEffect)],
    "how_many_follow": [
        ("frame", NoFrame), ("effect", NoEffect), ("place", NoPlace), ("one", NoRibbon), ("other", NoRibbon),
    ],
    "exchanged": [("frame", NoFrame), ("row", NoRow), ("at", NoAt)],
    "rising": [("frame", NoFrame), ("row", NoRow)],
    "parts": [("frame", NoFrame), ("one", NoRow), ("other", NoRow)],
    "leading": [("frame", NoFrame), ("one", NoRow), ("other", NoRow)],
    "shows_leading": [("frame", NoFrame), ("one", NoRow), ("other", NoRow)],
    "wish": [("board", NoBoard), ("goal", NoGoal)],
    "shows_wish": [("board", NoBoard), ("goal", NoGoal)],
    "priced": [("board", NoBoard), ("goal", NoGoal), ("prices", NoPrices)],
    "shows_priced": [("board", NoBoard), ("goal", NoGoal), ("prices", NoPrices)],
    "how_many_boards": [("board", NoBoard), ("prices", NoPrices)],
    "how_many_lead": [("board", NoBoard), ("goal", NoGoal), ("cuts", NoCuts)],
    "some_wish": [("board", NoBoard), ("wishes", NoWishes)],
    "shows_some": [("board", NoBoard), ("wishes", NoWishes)],
    "pieces": [("frame", NoFrame), ("effect", NoEffect), ("ribbon", NoRibbon)],
    "how_many_pieces": [("frame", NoFrame), ("effect", NoEffect)],
    "board_text": [("board", NoBoard)],
    "row_text": [("frame", NoFrame), ("row", NoRow)],
    "read_board": [("text", NoText)],
    "read_row": [("frame", NoFrame), ("text", NoText)],
}

# None of these is a frame, a board, a row, an effect, joints, a goal of BOARD, prices or wishes for it, a written text,
# or a number of times, of cuts, of a cut, place or ribbon.
NONE_OF_ALL = [
    True, False, None, -1, 9999999999999, "", "a", "a" * 600, [], {}, [0], [(0, 0, 1)], ["a"], {"a": 1}, ((),), (None,),
    (True, 1), (1, True), ((False, 0, 1),), DEEP, ([0, 0, 1],), (("a",),), ((0, 1, 2), [0, 1, 2]),
]


def function_of(module, name):
    return getattr(importlib.import_module(f"tailswap.{module}"), name)


class InterfaceTest(unittest.TestCase):
    def test_each_is_defined_where_it_is_listed_with_its_names(self):
        for module, name, told, _ in CALLS:
            with self.subTest(name):
                function = function_of(module, name)
                self.assertTrue(inspect.isfunction(function))
                self.assertEqual(function.__module__, f"tailswap.{module}")
                parameters = inspect.signature(function).parameters.values()
                self.assertEqual([parameter.name for parameter in parameters], list(told))
                for parameter in parameters:
                    self.assertIs(parameter.kind, inspect.Parameter.POSITIONAL_OR_KEYWORD)
                    self.assertIs(parameter.default, inspect.Parameter.empty)

    def test_by_places_and_by_names(self):
        for module, name, told, answer in CALLS:
            with self.subTest(name):
                function = function_of(module, name)
                by_places = function(*told.values())
                by_names = function(**told)
                by_names_back = function(**dict(reversed(told.items())))
                self.assertEqual(repr(by_places), repr(by_names))
                self.assertEqual(repr(by_places), repr(by_names_back))
                self.assertEqual(repr(by_places), repr(answer))

    def test_the_same_asked_again_has_the_same_answer(self):
        for module, name, told, _ in CALLS:
            with self.subTest(name):
                function = function_of(module, name)
                first = repr(function(**told))
                for _, between, others, _ in CALLS:
                    function_of(_module_of(between), between)(**others)
                    self.assertEqual(repr(function(**told)), first)

    def test_what_is_handed_in_stays_as_it_was(self):
        for module, name, told, _ in CALLS:
            for at in told:
                for thing in [*THINGS, *NONE_OF_ALL]:
                    handed = copy.deepcopy({**told, at: thing})
                    before = repr(handed)
                    try:
                        function_of(module, name)(**handed)
                    except ValueError:
                        pass
                    self.assertEqual(repr(handed), before, name)


class RefusalsTest(RefusalCase):
    def test_of_several_errors_the_first_is_due(self):
        for module, name, told, _ in CALLS:
            due = DUE.get(name, [])
            for first, (_, error) in enumerate(due):
                amiss = [named for named, _ in due[first:]]
                for thing in NONE_OF_ALL:
                    function = function_of(module, name)
                    self.refused(error, function, **{**told, amiss[0]: thing})
                    self.refused(error, function, **{**told, **{named: thing for named in amiss}})

    def test_is_frame_and_is_board_refuse_nothing(self):
        for name in ("is_frame", "is_board"):
            for thing in [*THINGS, *NONE_OF_ALL]:
                self.assertIn(repr(function_of("boards", name)(thing)), ("True", "False"))

    def test_is_effect_refuses_nothing_but_the_frame(self):
        for thing in [*THINGS, *NONE_OF_ALL]:
            self.assertIs(function_of("rows", "is_effect")((3, 4), thing), False)

    def test_what_shows_something_is_told_of_anything(self):
        for module, name, told, _ in CALLS:
            if name.startswith("shows_"):
                for thing in [*THINGS, *NONE_OF_ALL]:
                    self.assertIs(function_of(module, name)(**{**told, "thing": thing}), False)

    def test_a_refusal_leaves_the_next_answer_as_it_was(self):
        for module, name, told, _ in CALLS:
            function = function_of(module, name)
            before = repr(function(**told))
            for named, error in DUE.get(name, []):
                self.refused(error, function, **{**told, named: None})
                self.assertEqual(repr(function(**told)), before)

    def test_what_was_told_may_be_handed_in_again(self):
        board = function_of("rows", "behind")(BOARD, ROW)
        frame = function_of("boards", "frame_of")(board)
        effect = function_of("rows", "does")(frame, ROW)
        back = function_of("rows", "undoing")(frame, ROW)
        self.assertEqual(function_of("rows", "led")(BOARD, effect), board)
        self.assertEqual(function_of("rows", "behind")(board, back), BOARD)
        joints = function_of("joints", "joints")(frame, effect)
        self.assertEqual(function_of("joints", "with_joints")(frame, joints), effect)
        short = function_of("joints", "shortest")(frame, effect)
        self.assertIs(function_of("joints", "is_short")(frame, short), True)
        falling = function_of("order", "exchanged")(frame, short, 1)
        self.assertEqual(function_of("order", "rising")(frame, falling), short)
        self.assertIs(function_of("order", "parts")(frame, falling, short), None)


def _module_of(name):
    return next(module for module, called, _, _ in CALLS if called == name)


if __name__ == "__main__":
    unittest.main()
