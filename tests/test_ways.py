"""[62]: how many rows of just so many cuts lead from a board to another one."""

import itertools
import unittest

from tailswap.counts import how_many
from tailswap.errors import NoBoard, NoCuts, NoGoal
from tailswap.goals import wish
from tailswap.ways import how_many_lead
from tests.plain import (
    FRAMES, board_cut, boards_by_cuts, boards_of, cuts_of, mixed_board, plain_behind, plain_frame, plainly_board,
    rows_of, some_boards, some_effects, spoilt, unlike_board,
)
from tests.refusals import NO_BOARDS, NO_NUMBERS, RefusalCase, boards_of_other_frames

BOARD = ("abcd", "abef", "aacd")
GOAL = ("aacf", "abed", "abcd")
NO_CUTS = [*NO_NUMBERS, 13, 14, 48, -12]


def rows_by_board(board, most):
    """For each number of cuts up to most tell {board: how many rows of so many cuts lead to it}."""
    told = [{board: 1}]
    for _ in range(most):
        further = {}
        for now, number in told[-1].items():
            for cut in cuts_of(plain_frame(board)):
                behind = board_cut(now, cut)
                further[behind] = further.get(behind, 0) + number
        told.append(further)
    return told


class HowManyLeadTest(RefusalCase):
    def test_known_numbers(self):
        self.assertEqual([how_many_lead(("a", "b"), ("b", "a"), cuts) for cuts in range(5)], [0, 1, 0, 1, 0])
        self.assertEqual([how_many_lead(("a", "a"), ("a", "a"), cuts) for cuts in range(5)], [1, 1, 1, 1, 1])
        # Each cut, at whichever place, is the same to the eye.
        self.assertEqual([how_many_lead(("ab", "ac"), ("ac", "ab"), cuts) for cuts in range(4)], [0, 2, 0, 8])
        self.assertEqual([how_many_lead(("ab", "cd"), ("ad", "cb"), cuts) for cuts in range(4)], [0, 1, 0, 4])
        self.assertEqual([how_many_lead(("ab",), ("ab",), cuts) for cuts in range(3)], [1, 0, 0])
        self.assertEqual(how_many_lead(("ab",), ("ab",), 12), 0)
        self.assertEqual([how_many_lead(("ab", "cd"), ("ab", "ce"), cuts) for cuts in range(13)], [0] * 13)

    def test_against_all_rows_of_none_to_some_cuts(self):
        for frame in [(1, 2), (2, 2), (2, 3), (3, 1), (3, 2), (4, 1)]:
            for board in [*some_boards(frame), *mixed_board(frame, "pq")]:
                for cuts in range(5):
                    ends = [plain_behind(board, row) for row in rows_of(frame, cuts)]
                    for goal in boards_by_cuts(board):
                        self.assertEqual(repr(how_many_lead(board, goal, cuts)), repr(ends.count(goal)))

    def test_cut_by_cut_up_to_twelve(self):
        for frame in [(1, 3), (2, 4), (3, 2), (4, 1), (3, 3), (5, 1)]:
            for board in [*some_boards(frame), *mixed_board(frame, "pqq")]:
                rows = rows_by_board(board, 12)
                for goal in list(boards_by_cuts(board))[::5]:
                    for cuts in range(13):
                        self.assertEqual(how_many_lead(board, goal, cuts), rows[cuts].get(goal, 0))

    def test_all_goals_of_small_boards(self):
        for frame in [(2, 3), (3, 2)]:
            for board in boards_of(frame, "ab")[::7]:
                rows = rows_by_board(board, 5)
                for goal, cuts in itertools.product(boards_of(frame, "ab"), range(6)):
                    self.assertEqual(how_many_lead(board, goal, cuts), rows[cuts].get(goal, 0))

    def test_none_of_fewer_cuts_than_the_fewest(self):
        for frame in [(2, 12), (3, 6), (4, 4), (5, 3)]:
            board, goal = mixed_board(frame, "abc")
            fewest = wish(board, goal)[1]
            for cuts in range(13):
                self.assertEqual(how_many_lead(board, goal, cuts) == 0, cuts < fewest, (board, goal, cuts))

    def test_of_unlike_beads_as_many_as_have_the_effect(self):
        for frame in FRAMES:
            board = unlike_board(frame)
            for effect in some_effects(frame, 1):
                goal = tuple("".join(board[line[ribbon]][place] for place, line in enumerate(effect))
                             for ribbon in range(frame[0]))
                for cuts in (0, 1, 4, 11, 12):
                    self.assertEqual(how_many_lead(board, goal, cuts), how_many(frame, effect, cuts))

    def test_of_like_beads_all_rows(self):
        for frame in FRAMES:
            many, long = frame
            board = ("q" * long,) * many
            for cuts in (0, 1, 12):
                self.assertEqual(how_many_lead(board, board, cuts), len(cuts_of(frame)) ** cuts)

    def test_all_goals_together_are_all_rows(self):
        for frame in [(3, 3), (4, 2), (5, 1)]:
            board, _ = mixed_board(frame, "aab")
            for cuts in (0, 5, 12):
                told = [how_many_lead(board, goal, cuts) for goal in boards_by_cuts(board)]
                self.assertEqual(sum(told), len(cuts_of(frame)) ** cuts)


class RefusalsTest(RefusalCase):
    def test_of_no_board(self):
        for thing in NO_BOARDS:
            for goal, cuts in [(GOAL, 0), (None, 0), (GOAL, None), (thing, thing)]:
                self.refused(NoBoard, how_many_lead, thing, goal, cuts)

    def test_of_no_goal(self):
        for thing in [*NO_BOARDS, *boards_of_other_frames(BOARD)]:
            for cuts in [0, 12, 13, None]:
                self.refused(NoGoal, how_many_lead, BOARD, thing, cuts)
        for thing in spoilt(GOAL):
            if not plainly_board(thing) or plain_frame(thing) != (3, 4):
                self.refused(NoGoal, how_many_lead, BOARD, thing, 2)

    def test_of_no_cuts(self):
        for thing in NO_CUTS:
            self.refused(NoCuts, how_many_lead, BOARD, GOAL, thing)
            self.refused(NoCuts, how_many_lead, BOARD, BOARD, thing)
        for cuts in (0, 12):
            self.assertIs(type(how_many_lead(BOARD, GOAL, cuts)), int)


if __name__ == "__main__":
    unittest.main()
