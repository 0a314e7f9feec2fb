"""[20], [21]: cuts, rows and effects; [5] as far as they show it."""

import itertools
import unittest

from tailswap.errors import NoBoard, NoEffect, NoFrame, NoRow
from tailswap.rows import behind, does, is_effect, led, undoing
from tests.plain import (
    FRAMES, THINGS, cuts_of, plain_behind, plain_effect, plain_joints, plainly_board, plainly_effect, plainly_frame,
    plainly_row, some_boards, some_rows, spoilt, unlike_board,
)
from tests.refusals import RefusalCase

BOARD = ("abcd", "efgh", "ijkl")
FRAME = (3, 4)
# Each is no row of FRAME, and just one thing is amiss with it.
NO_ROWS = [
    ((4, 0, 1),), ((-1, 0, 1),), ((0, 0, 3),), ((0, -1, 1),), ((0, 1, 0),), ((0, 2, 1),), ((0, 1, 1),), ((0, 0, 0),),
    ((True, 0, 1),), ((False, 0, 1),), ((0, False, 1),), ((0, 0, True),), ((0, True, 2),),
    ([0, 0, 1],), [(0, 0, 1)], [], ((0, 0),), ((0, 0, 1, 2),), ((),), (0, 0, 1), ({0: 0, 1: 0, 2: 1},),
    ((0, 0, None),), ((None, 0, 1),), (("0", "0", "1"),), ("001",), "", "-", None, True, 0, {}, {(0, 0, 1): 1},
    (((0, 0, 1),),), (((0,), 0, 1),), ((0, 0, 1), (0, 0, 1), (4, 0, 1)), ((4, 0, 1), (0, 0, 1)), ((0, 0, 1), None),
    ((9999999999999, 0, 1),), ((0, 0, 9999999999999),),
]


class BehindTest(RefusalCase):
    def test_one_cut(self):
        self.assertEqual(behind(BOARD, ((0, 0, 1),)), ("efgh", "abcd", "ijkl"))
        self.assertEqual(behind(BOARD, ((1, 0, 2),)), ("ajkl", "efgh", "ibcd"))
        self.assertEqual(behind(BOARD, ((3, 1, 2),)), ("abcd", "efgl", "ijkh"))

    def test_cuts_are_done_one_behind_the_other(self):
        self.assertEqual(behind(BOARD, ((1, 0, 1), (2, 1, 2))), ("afgh", "ebkl", "ijcd"))
        self.assertEqual(behind(BOARD, ((2, 1, 2), (1, 0, 1))), ("afkl", "ebcd", "ijgh"))

    def test_no_cuts_and_a_cut_twice(self):
        self.assertEqual(behind(BOARD, ()), BOARD)
        self.assertEqual(behind(BOARD, ((2, 0, 1), (2, 0, 1))), BOARD)

    def test_like_letters(self):
        self.assertEqual(behind(("aab", "aaa"), ((1, 0, 1),)), ("aaa", "aab"))
        self.assertEqual(behind(("aa", "aa"), ((1, 0, 1),)), ("aa", "aa"))

    def test_each_cut_of_each_frame(self):
        for frame in FRAMES:
            for cut in cuts_of(frame):
                board = unlike_board(frame)
                self.assertEqual(behind(board, (cut,)), plain_behind(board, (cut,)))

    def test_rows_of_many_lengths_with_more_than_sixty(self):
        for frame in FRAMES:
            for row in some_rows(frame, (0, 1, 2, 3, 10, 60, 61, 75)):
                for board in some_boards(frame):
                    self.assertEqual(behind(board, row), plain_behind(board, row))

    def test_a_row_that_was_told_may_be_however_long(self):
        row = undoing(FRAME, ((0, 0, 1), (2, 1, 2)) * 3000)
        self.assertEqual(behind(BOARD, row), plain_behind(BOARD, row))

    def test_of_no_row(self):
        for thing in NO_ROWS:
            self.refused(NoRow, behind, BOARD, thing)

    def test_one_ribbon_has_no_cuts(self):
        self.assertEqual(behind(("ab",), ()), ("ab",))
        for cut in [(0, 0, 0), (0, 0, 1), (1, 0, 0)]:
            self.refused(NoRow, behind, ("ab",), (cut,))

    def test_of_anything_for_a_row(self):
        for board, row in [(BOARD, ((3, 1, 2), (0, 0, 1))), (("a",), ()), (("ab", "cd"), ((1, 0, 1),))]:
            frame = (len(board), len(board[0]))
            for thing in spoilt(row):
                if plainly_row(frame, thing):
                    self.assertEqual(behind(board, thing), plain_behind(board, thing))
                else:
                    self.refused(NoRow, behind, board, thing)

    def test_of_no_board_ahead_of_no_row(self):
        for thing in spoilt(BOARD):
            if not plainly_board(thing):
                self.refused(NoBoard, behind, thing, ())
                self.refused(NoBoard, behind, thing, ((9, 9, 9),))


class DoesTest(RefusalCase):
    def test_bead_by_bead(self):
        self.assertEqual(does((3, 2), ()), ((0, 1, 2), (0, 1, 2)))
        self.assertEqual(does((3, 2), ((1, 0, 1),)), ((0, 1, 2), (1, 0, 2)))
        self.assertEqual(does((3, 2), ((0, 0, 1), (1, 1, 2))), ((1, 0, 2), (1, 2, 0)))
        self.assertEqual(does((1, 1), ()), ((0,),))

    def test_against_playing_it_out(self):
        for frame in FRAMES:
            for row in some_rows(frame):
                self.assertEqual(repr(does(frame, row)), repr(plain_effect(frame, row)))

    def test_refusals_in_their_order(self):
        for thing in spoilt(FRAME):
            if not plainly_frame(thing):
                self.refused(NoFrame, does, thing, ())
                self.refused(NoFrame, does, thing, None)
        for thing in NO_ROWS:
            self.refused(NoRow, does, FRAME, thing)


class IsEffectTest(RefusalCase):
    def test_effects_of_rows(self):
        for frame in FRAMES:
            for row in some_rows(frame):
                self.assertIs(is_effect(frame, does(frame, row)), True)

    def test_whichever_lines_make_an_effect(self):
        lines = list(itertools.permutations(range(3)))
        for effect in itertools.product(lines, repeat=2):
            self.assertIs(is_effect((3, 2), effect), True)

    def test_what_is_none(self):
        for thing in [((0, 1, 2),), ((0, 1, 2),) * 3, ((0, 1),) * 2, ((0, 1, 2, 3),) * 2, ((0, 1, 1), (0, 1, 2)),
                      ((0, 1, 3), (0, 1, 2)), ((-1, 0, 1), (0, 1, 2)), ((0, True, 2), (0, 1, 2)),
                      ((0, 1, 2), (False, 1, 2)), [(0, 1, 2), (0, 1, 2)], ((0, 1, 2), [0, 1, 2]), (), None, "", True,
                      ("012", "012"), ((0, 1, 2), None), ((0, 1, None), (0, 1, 2)), ((0, 1, (2,)), (0, 1, 2)),
                      {0: (0, 1, 2), 1: (0, 1, 2)}]:
            self.assertIs(is_effect((3, 2), thing), False, thing)

    def test_of_anything(self):
        for frame, row in [((3, 2), ((1, 0, 2),)), ((1, 1), ()), ((1, 3), ()), ((5, 2), ((0, 1, 4), (1, 0, 2)))]:
            for thing in spoilt(plain_effect(frame, row)):
                self.assertIs(is_effect(frame, thing), plainly_effect(frame, thing), thing)

    def test_of_no_frame(self):
        for thing in spoilt(FRAME):
            if not plainly_frame(thing):
                self.refused(NoFrame, is_effect, thing, ((0, 1, 2),) * 4)
                self.refused(NoFrame, is_effect, thing, None)


class LedTest(RefusalCase):
    def test_bead_by_bead(self):
        self.assertEqual(led(("ab", "cd", "ef"), ((1, 2, 0), (0, 1, 2))), ("cb", "ed", "af"))
        self.assertEqual(led(("ab", "cd", "ef"), ((0, 1, 2), (2, 0, 1))), ("af", "cb", "ed"))
        self.assertEqual(led(("a",), ((0,),)), ("a",))

    def test_where_the_row_leads_the_effect_leads(self):
        for frame in FRAMES:
            for row in some_rows(frame):
                for board in some_boards(frame):
                    self.assertEqual(led(board, does(frame, row)), plain_behind(board, row))

    def test_refusals_in_their_order(self):
        board = ("ab", "cd", "ef")
        effect = ((1, 2, 0), (0, 1, 2))
        for thing in spoilt(board):
            if not plainly_board(thing):
                self.refused(NoBoard, led, thing, effect)
                self.refused(NoBoard, led, thing, None)
        for thing in spoilt(effect):
            if not plainly_effect((3, 2), thing):
                self.refused(NoEffect, led, board, thing)
        self.refused(NoEffect, led, ("ab", "cd"), effect)
        self.refused(NoEffect, led, ("abc", "cde", "efg"), effect)


class UndoingTest(RefusalCase):
    def test_the_last_cut_stands_ahead(self):
        self.assertEqual(undoing(FRAME, ()), ())
        self.assertEqual(undoing(FRAME, ((1, 0, 2),)), ((1, 0, 2),))
        self.assertEqual(undoing(FRAME, ((0, 0, 1), (3, 1, 2), (2, 0, 2))), ((2, 0, 2), (3, 1, 2), (0, 0, 1)))

    def test_it_undoes(self):
        for frame in FRAMES:
            for row in some_rows(frame):
                undone = undoing(frame, row)
                self.assertEqual(does(frame, row + undone), plain_effect(frame, ()))
                self.assertEqual(does(frame, undone + row), plain_effect(frame, ()))
                self.assertEqual(undoing(frame, undone), row)

    def test_refusals_in_their_order(self):
        for thing in THINGS:
            if not plainly_frame(thing):
                self.refused(NoFrame, undoing, thing, ())
                self.refused(NoFrame, undoing, thing, None)
        for thing in NO_ROWS:
            self.refused(NoRow, undoing, FRAME, thing)


class JointTest(unittest.TestCase):
    def test_each_cut_turns_just_the_joint_at_its_place_by_one_exchange(self):
        for frame in [(2, 3), (3, 4), (5, 12)]:
            for row in some_rows(frame, (0, 1, 5)):
                for cut in cuts_of(frame):
                    before = plain_joints(does(frame, row))
                    after = plain_joints(does(frame, row + (cut,)))
                    unlike = [place for place in range(frame[1]) if before[place] != after[place]]
                    self.assertEqual(unlike, [cut[0]])
                    at = cut[0]
                    changed = [ribbon for ribbon in range(frame[0]) if before[at][ribbon] != after[at][ribbon]]
                    self.assertEqual(len(changed), 2)


if __name__ == "__main__":
    unittest.main()
