"""[60]: whether a board can be come to from another one, and by how few cuts."""

import itertools
import unittest

from tailswap.errors import NoBoard, NoGoal
from tailswap.goals import shows_wish, wish
from tests.plain import (
    FRAMES, boards_by_cuts, boards_of, columns, mixed_board, plain_behind, plain_coins, plain_fewest, plain_frame,
    plainly_board, plainly_row, rows_of, some_boards, some_effects, spoilt, unlike_board, whole,
)
from tests.refusals import NO_BOARDS, NO_NUMBERS, RefusalCase, boards_of_other_frames

BOARD = ("abcd", "abef", "aacd")
GOAL = ("aacf", "abed", "abcd")
LIKE = ("aab", "aba", "bab")


def lacks(board, goal):
    """Tell the places where the board doesn't have the beads that the goal has."""
    both = list(zip(columns(board), columns(goal)))
    return [place for place, (there, wanted) in enumerate(both) if sorted(there) != sorted(wanted)]


def plainly_shown(board, goal, fewest, thing):
    """Tell by the point's words whether thing shows the fewest cuts (None: there are none), or a place that lacks."""
    if type(thing) is not tuple or not thing:
        return False
    if len(thing) == 3 and thing[0] == "cuts" and plainly_row(plain_frame(board), thing[2]):
        return type(thing[1]) is int and thing[1] == fewest == len(thing[2]) and plain_behind(board, thing[2]) == goal
    if len(thing) == 2 and thing[0] == "lacks":
        return whole(thing[1], 0, len(board[0]) - 1) and thing[1] in lacks(board, goal)
    return False


class WishTest(RefusalCase):
    def told_right(self, board, goal, fewest):
        told = wish(board, goal)
        if fewest is None:
            self.assertEqual(repr(told), repr(("lacks", min(lacks(board, goal)))))
        else:
            self.assertEqual(lacks(board, goal), [])
            self.assertEqual(repr(told[:2]), repr(("cuts", fewest)))
            self.assertEqual(len(told), 3)
            self.assertTrue(plainly_row(plain_frame(board), told[2]))
            self.assertEqual(len(told[2]), fewest)
            self.assertEqual(plain_behind(board, told[2]), goal)
        self.assertIs(shows_wish(board, goal, told), True)

    def test_known_boards(self):
        self.assertEqual(wish(("ab", "cd"), ("ad", "cb")), ("cuts", 1, ((1, 0, 1),)))
        self.assertEqual(wish(("ab", "cd"), ("cb", "ad")), ("cuts", 2, ((0, 0, 1), (1, 0, 1))))
        self.assertEqual(wish(("ab", "ad"), ("ad", "ab")), ("cuts", 1, ((0, 0, 1),)))
        self.assertEqual(wish(("a",), ("a",)), ("cuts", 0, ()))
        self.assertEqual(wish(("a",), ("b",)), ("lacks", 0))
        self.assertEqual(wish(("ab", "cd"), ("ab", "cc")), ("lacks", 1))
        self.assertEqual(wish(("ab", "cd"), ("aa", "aa")), ("lacks", 0))

    def test_of_like_beads_the_other_place_may_do_it_alone(self):
        # Either ribbon may be said to begin by `a`, so the cut at place 1 is all there is to do.
        self.assertEqual(wish(("ab", "ac"), ("ac", "ab"))[1], 1)
        self.assertEqual(wish(("abx", "acx", "abx"), ("acx", "abx", "abx"))[1], 1)

    def test_all_goals_of_small_boards(self):
        for frame, letters in [((1, 3), "ab"), ((2, 3), "ab"), ((3, 2), "ab"), ((2, 2), "abc"), ((5, 1), "ab")]:
            for board in boards_of(frame, letters)[::3]:
                reached = boards_by_cuts(board)
                for goal in boards_of(frame, letters):
                    self.told_right(board, goal, reached.get(goal))

    def test_all_boards_to_which_cuts_lead(self):
        frames = [(2, 4), (3, 3), (4, 2), (2, 6), (5, 1)]
        for frame in frames:
            for board in [*some_boards(frame), *mixed_board(frame, "pq"), *mixed_board(frame, "pqr")]:
                for goal, fewest in boards_by_cuts(board).items():
                    self.told_right(board, goal, fewest)

    def test_of_unlike_beads_as_many_as_the_effect_takes(self):
        for frame in FRAMES:
            board = unlike_board(frame)
            for effect in some_effects(frame):
                goal = tuple("".join(board[line[ribbon]][place] for place, line in enumerate(effect))
                             for ribbon in range(frame[0]))
                self.told_right(board, goal, plain_fewest(effect))

    def test_each_place_that_lacks(self):
        for frame in FRAMES:
            board = unlike_board(frame)
            text = board[-1]
            # Each bead of the last ribbon is otherwise in this one, so from a place on all places lack.
            other = "".join("a" if letter == "b" else "b" for letter in text)
            for place in range(frame[1]):
                self.told_right(board, board[:-1] + (text[:place] + other[place] + text[place + 1:],), None)
                self.assertEqual(wish(board, board[:-1] + (text[:place] + other[place:],)), ("lacks", place))

    def test_four_and_five_ribbons_of_twelve_places_of_like_beads(self):
        for frame in [(4, 12), (5, 12)]:
            for letters in ("a", "ab", "aaab", "abc"):
                board, goal = mixed_board(frame, letters)
                self.told_right(board, goal, plain_coins(board, goal, (1,) * 12))

    def test_a_board_is_as_it_is_by_no_cuts(self):
        for frame in FRAMES:
            for board in some_boards(frame):
                self.assertEqual(wish(board, board), ("cuts", 0, ()))


class ShowsWishTest(RefusalCase):
    def test_all_rows_up_to_one_cut_more(self):
        for board, goal in [(LIKE, ("bab", "aba", "aab")), (("ab", "cd", "ef"), ("ad", "cf", "eb")), (BOARD, GOAL)]:
            fewest = boards_by_cuts(board)[goal]
            rows = [row for length in range(min(fewest, 2) + 2) for row in rows_of(plain_frame(board), length)]
            for row in rows:
                for many in {len(row), fewest}:
                    shown = len(row) == many == fewest and plain_behind(board, row) == goal
                    self.assertIs(shows_wish(board, goal, ("cuts", many, row)), shown)

    def test_other_numbers_and_longer_rows(self):
        row = wish(BOARD, GOAL)[2]
        self.assertIs(shows_wish(BOARD, GOAL, ("cuts", len(row), row)), True)
        for many in [*NO_NUMBERS, len(row) - 1, len(row) + 1, -len(row), f"{len(row)}"]:
            self.assertIs(shows_wish(BOARD, GOAL, ("cuts", many, row)), False)
        longer = row + ((3, 0, 1), (3, 0, 1))
        self.assertEqual(plain_behind(BOARD, longer), GOAL)
        self.assertIs(shows_wish(BOARD, GOAL, ("cuts", len(longer), longer)), False)
        self.assertIs(shows_wish(BOARD, GOAL, ("cuts", len(row), longer)), False)

    def test_truths_for_numbers(self):
        self.assertIs(shows_wish(("ab", "cd"), ("ad", "cb"), ("cuts", 1, ((1, 0, 1),))), True)
        for thing in [("cuts", True, ((1, 0, 1),)), ("cuts", 1, ((True, 0, 1),)), ("cuts", 1, ((1, False, True),))]:
            self.assertIs(shows_wish(("ab", "cd"), ("ad", "cb"), thing), False)
        self.assertIs(shows_wish(("ab",), ("ab",), ("cuts", 0, ())), True)
        self.assertIs(shows_wish(("ab",), ("ab",), ("cuts", False, ())), False)
        self.assertIs(shows_wish(("ab",), ("cc",), ("lacks", 1)), True)
        self.assertIs(shows_wish(("ab",), ("cc",), ("lacks", True)), False)
        self.assertIs(shows_wish(("ab",), ("cc",), ("lacks", False)), False)

    def test_any_place_that_lacks(self):
        goal = ("abcd", "zbef", "aacz")
        for place in [*range(-5, 6), 9999999999999]:
            self.assertIs(shows_wish(BOARD, goal, ("lacks", place)), place in (0, 3))
            self.assertIs(shows_wish(BOARD, GOAL, ("lacks", place)), False)

    def test_as_often(self):
        # Both have `a` and `b` at place 0, but not as often.
        self.assertIs(shows_wish(("a", "a", "b"), ("a", "b", "b"), ("lacks", 0)), True)
        self.assertEqual(wish(("a", "a", "b"), ("a", "b", "b")), ("lacks", 0))

    def test_of_anything(self):
        lacking = ("abcd", "zbef", "aacz")
        pairs = [
            (BOARD, GOAL, wish(BOARD, GOAL)), (BOARD, BOARD, ("cuts", 0, ())), (BOARD, lacking, ("lacks", 3)),
            (("ab", "cd"), ("cd", "ab"), ("cuts", 1, ((0, 0, 1),))), (("a",), ("b",), ("lacks", 0)),
        ]
        for board, goal, shown in pairs:
            fewest = boards_by_cuts(board).get(goal)
            self.assertTrue(plainly_shown(board, goal, fewest, shown))
            for thing in [shown, *spoilt(shown)]:
                self.assertIs(shows_wish(board, goal, thing), plainly_shown(board, goal, fewest, thing), thing)

    def test_other_words_and_lengths(self):
        row = ((1, 0, 1),)
        for thing in [
            ["cuts", 1, row], ("cuts", 1, list(row)), ("cuts", 1, ([1, 0, 1],)), ("cuts", 1), ("cuts", 1, row, row),
            ("coins", 1, row), ("numbers", 1, row), ("Cuts", 1, row), (1, row), ("cuts", row, 1), ("cuts", 1, (row,)),
            ("cuts", 1, "1:0x1"), ("cuts", 1, None), None, True, 1, "cuts", (), {}, {0: "cuts", 1: 1, 2: row},
            ("cuts", 1, ((1, 1, 0),)), ("cuts", 1, ((2, 0, 1),)), ("lacks", 1, row), ("lacks", 0, 1), ("lacks", 1),
        ]:
            self.assertIs(shows_wish(("ab", "cd"), ("ad", "cb"), thing), False)
        for thing in [["lacks", 1], ("lacks",), ("lacks", (1,)), ("lack", 1), ("lacks", "1"), ("lacks", 1, 1), (1,)]:
            self.assertIs(shows_wish(("ab", "cd"), ("ad", "ce"), thing), False)
        self.assertIs(shows_wish(("ab", "cd"), ("ad", "ce"), ("lacks", 1)), True)

    def test_just_one_of_both_is_shown(self):
        for board, goal in itertools.product(boards_of((2, 2), "ab"), repeat=2):
            rows = [row for length in range(4) for row in rows_of((2, 2), length)]
            by_cuts = any(shows_wish(board, goal, ("cuts", len(row), row)) for row in rows)
            by_lack = any(shows_wish(board, goal, ("lacks", place)) for place in range(2))
            self.assertNotEqual(by_cuts, by_lack)

    def test_large_boards_of_like_beads(self):
        for frame in [(4, 12), (5, 12)]:
            board, goal = mixed_board(frame, "abb", 8)
            fewest = plain_coins(board, goal, (1,) * 12)
            _, many, row = wish(board, goal)
            self.assertEqual(many, fewest)
            self.assertIs(shows_wish(board, goal, ("cuts", many + 2, row + ((11, 0, 1), (11, 0, 1)))), False)
            self.assertIs(shows_wish(board, goal, ("cuts", many, row)), True)
            self.assertIs(shows_wish(board, goal, ("cuts", many, row[:-1])), False)


class RefusalsTest(RefusalCase):
    def test_of_no_board(self):
        for thing in NO_BOARDS:
            for goal in (GOAL, None, thing):
                self.refused(NoBoard, wish, thing, goal)
                self.refused(NoBoard, shows_wish, thing, goal, ("lacks", 0))

    def test_of_no_goal(self):
        for thing in [*NO_BOARDS, *boards_of_other_frames(BOARD)]:
            self.refused(NoGoal, wish, BOARD, thing)
            for shown in [("lacks", 0), ("cuts", 0, ()), None]:
                self.refused(NoGoal, shows_wish, BOARD, thing, shown)

    def test_of_anything_for_a_goal(self):
        for thing in spoilt(GOAL):
            if plainly_board(thing) and plain_frame(thing) == (3, 4):
                self.assertIs(shows_wish(BOARD, thing, wish(BOARD, thing)), True)
            else:
                self.refused(NoGoal, wish, BOARD, thing)
                self.refused(NoGoal, shows_wish, BOARD, thing, ("lacks", 0))


if __name__ == "__main__":
    unittest.main()
