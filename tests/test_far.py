"""[30], [31]: rows that are played again and again."""

import unittest

from tailswap.errors import NoBoard, NoFrame, NoRow, NoTimes
from tailswap.far import behind_far, round_from, round_of
from tests.plain import (
    FRAMES, plain_behind, plain_round, plain_round_from, plainly_board, plainly_frame, some_boards, some_rows, spoilt,
    unlike_board,
)
from tests.refusals import RefusalCase

BOARD = ("abcd", "efgh", "ijkl")
ROW = ((0, 0, 1), (2, 1, 2))
NO_ROW = ((0, 1, 0),)
NO_ROWS = [NO_ROW, None, list(ROW), ((4, 0, 1),), ((0, 0, 3),), ((False, 0, 1),), "", True]
MOST = 1_000_000_000_000
# Rounds of three, four and five ribbons at places 0, 1 and 2: together sixty.
SIXTY = ((0, 0, 1), (0, 1, 2), (1, 2, 3), (2, 3, 4))


class BehindFarTest(RefusalCase):
    def test_no_times_and_one(self):
        for frame in FRAMES:
            for row in some_rows(frame):
                for board in some_boards(frame):
                    self.assertEqual(behind_far(board, row, 0), board)
                    self.assertEqual(behind_far(board, row, 1), plain_behind(board, row))

    def test_few_times_against_playing_it_out(self):
        for frame in [(1, 1), (1, 4), (2, 3), (3, 4), (4, 2), (5, 6)]:
            for row in some_rows(frame, (0, 1, 2, 3, 7)):
                for board in some_boards(frame):
                    for times in [2, 3, 4, 5, 6, 7, 11, 12, 30, 59, 60, 61, 127]:
                        self.assertEqual(behind_far(board, row, times), plain_behind(board, row, times))

    def test_in_which_way_it_turns(self):
        row = ((0, 0, 1), (0, 1, 2))
        board = ("a", "b", "c")
        self.assertEqual(behind_far(board, row, 1), ("b", "c", "a"))
        self.assertEqual(behind_far(board, row, 2), ("c", "a", "b"))
        self.assertEqual(behind_far(board, row, MOST), ("b", "c", "a"))

    def test_a_million_million_times(self):
        for frame in [(2, 3), (3, 4), (4, 12), (5, 12)]:
            for row in some_rows(frame):
                for board in some_boards(frame):
                    for times in (MOST, MOST - 1, MOST - 17):
                        # Of five ribbons each bead's round is of five at most, and 1 to 5 all divide 60.
                        self.assertEqual(behind_far(board, row, times), plain_behind(board, row, times % 60))

    def test_a_row_of_more_than_sixty_cuts(self):
        row = ROW * 40
        self.assertEqual(behind_far(BOARD, row, 3), plain_behind(BOARD, row, 3))

    def test_of_no_times(self):
        for thing in [-1, MOST + 1, 9999999999999, -9999999999999, True, False, None, "", "0", "1", (), (1,), [1], {},
                      {1: 1}, ((1,),)]:
            self.refused(NoTimes, behind_far, BOARD, ROW, thing)
            self.refused(NoTimes, behind_far, ("a",), (), thing)

    def test_refusals_in_their_order(self):
        for thing in spoilt(BOARD):
            if not plainly_board(thing):
                self.refused(NoBoard, behind_far, thing, ROW, 1)
                self.refused(NoBoard, behind_far, thing, NO_ROW, -1)
        for thing in NO_ROWS:
            self.refused(NoRow, behind_far, BOARD, thing, 1)
            self.refused(NoRow, behind_far, BOARD, thing, 0)
            self.refused(NoRow, behind_far, BOARD, thing, -1)
            self.refused(NoRow, behind_far, BOARD, thing, True)


class RoundOfTest(RefusalCase):
    def test_known_rounds(self):
        self.assertEqual(round_of((1, 12), ()), 1)
        self.assertEqual(round_of((3, 4), ()), 1)
        self.assertEqual(round_of((3, 4), ((2, 0, 1),)), 2)
        self.assertEqual(round_of((3, 4), ((3, 0, 1), (3, 1, 2))), 3)
        self.assertEqual(round_of((3, 4), ((0, 0, 1), (3, 1, 2))), 6)
        self.assertEqual(round_of((4, 1), ((0, 0, 1), (0, 1, 2), (0, 2, 3))), 4)
        self.assertEqual(round_of((5, 1), ((0, 0, 1), (0, 2, 3), (0, 3, 4))), 6)
        self.assertEqual(round_of((5, 1), ((0, 0, 1), (0, 1, 2), (0, 2, 3), (0, 3, 4))), 5)
        self.assertEqual(round_of((4, 2), ((0, 0, 1), (1, 2, 3))), 2)

    def test_sixty_is_come_to(self):
        self.assertEqual(plain_round((5, 4), SIXTY), 60)
        self.assertEqual(round_of((5, 4), SIXTY), 60)

    def test_against_playing_it_out(self):
        for frame in FRAMES:
            for row in some_rows(frame, (0, 1, 2, 3, 5)):
                self.assertEqual(round_of(frame, row), plain_round(frame, row))

    def test_refusals_in_their_order(self):
        for thing in spoilt((3, 4)):
            if not plainly_frame(thing):
                self.refused(NoFrame, round_of, thing, ROW)
                self.refused(NoFrame, round_of, thing, NO_ROW)
        for thing in NO_ROWS:
            self.refused(NoRow, round_of, (3, 4), thing)


class RoundFromTest(RefusalCase):
    def test_like_letters_make_it_shorter(self):
        row = ((0, 0, 1), (0, 2, 3), (0, 3, 4))
        self.assertEqual(round_of((5, 1), row), 6)
        self.assertEqual(round_from(("a", "b", "c", "d", "e"), row), 6)
        self.assertEqual(round_from(("a", "a", "c", "d", "e"), row), 3)
        self.assertEqual(round_from(("a", "b", "c", "c", "c"), row), 2)
        self.assertEqual(round_from(("a", "a", "c", "c", "c"), row), 1)

    def test_like_letters_in_a_round_of_four(self):
        row = ((0, 0, 1), (0, 1, 2), (0, 2, 3))
        self.assertEqual(round_from(("a", "b", "a", "b"), row), 2)
        self.assertEqual(round_from(("a", "a", "b", "b"), row), 4)

    def test_of_unlike_letters_it_is_the_row_s(self):
        for frame in FRAMES:
            for row in some_rows(frame, (0, 1, 2, 3, 5)):
                self.assertEqual(round_from(unlike_board(frame), row), plain_round(frame, row))
        self.assertEqual(round_from(("abcd", "efgh", "ijkl", "mnop", "qrst"), SIXTY), 60)

    def test_against_playing_it_out_and_it_divides_the_row_s(self):
        for frame in FRAMES:
            for row in some_rows(frame, (0, 1, 2, 3, 5)):
                for board in some_boards(frame):
                    told = round_from(board, row)
                    self.assertEqual(told, plain_round_from(board, row))
                    self.assertEqual(round_of(frame, row) % told, 0)
                    self.assertEqual(behind_far(board, row, told), board)

    def test_refusals_in_their_order(self):
        for thing in spoilt(BOARD):
            if not plainly_board(thing):
                self.refused(NoBoard, round_from, thing, ROW)
                self.refused(NoBoard, round_from, thing, NO_ROW)
        for thing in NO_ROWS:
            self.refused(NoRow, round_from, BOARD, thing)


if __name__ == "__main__":
    unittest.main()
