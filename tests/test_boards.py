"""[10]: frames and boards, of anything."""

import unittest

from tailswap.boards import frame_of, is_board, is_frame
from tailswap.errors import NoBoard
from tests.plain import FRAMES, THINGS, plainly_board, plainly_frame, some_boards, spoilt
from tests.refusals import RefusalCase


class FrameTest(unittest.TestCase):
    def test_frames_of_each_size(self):
        for frame in FRAMES:
            self.assertIs(is_frame(frame), True, frame)

    def test_one_beyond_each_bound(self):
        for thing in [(0, 1), (6, 1), (1, 0), (1, 13), (0, 12), (6, 12), (5, 0), (5, 13), (0, 0), (6, 13), (-1, 1)]:
            self.assertIs(is_frame(thing), False, thing)

    def test_truths_are_no_numbers(self):
        for thing in [(True, 1), (1, True), (True, True), (False, 1), (True, 12), (5, True)]:
            self.assertIs(is_frame(thing), False, thing)

    def test_other_kinds_and_lengths(self):
        for thing in [[3, 4], (3,), (3, 4, 5), (), "34", {3: 4}, ("3", "4"), (3, None), ((3, 4),), ((3,), (4,)), (3, [4])]:
            self.assertIs(is_frame(thing), False, thing)

    def test_of_anything(self):
        for frame in [(1, 1), (3, 4), (5, 12)]:
            for thing in spoilt(frame):
                self.assertIs(is_frame(thing), plainly_frame(thing), thing)


class BoardTest(unittest.TestCase):
    def test_boards_of_each_frame(self):
        for frame in FRAMES:
            for board in some_boards(frame):
                self.assertIs(is_board(board), True, board)

    def test_one_beyond_each_bound(self):
        for thing in [(), ("a",) * 6, ("",), ("", ""), ("a" * 13,), ("a" * 13,) * 5, ("a" * 12,) * 6]:
            self.assertIs(is_board(thing), False, thing)

    def test_all_texts_are_as_long(self):
        for thing in [("a", "ab"), ("ab", "a"), ("ab", "ab", "a"), ("ab", "abc", "ab"), ("a", "")]:
            self.assertIs(is_board(thing), False, thing)

    def test_small_letters_alone(self):
        self.assertIs(is_board(("az", "za")), True)
        for sign in "AZ09`{ \n_-@":
            for text in (sign, sign + "a", "a" + sign, "a" + sign + "a"):
                self.assertIs(is_board((text,)), False, text)
                self.assertIs(is_board(("a" * len(text), text)), False, text)

    def test_other_kinds(self):
        for thing in ["a", "abc", ["a"], ["ab", "ab"], {"a": "a"}, (("a",),), (["a"],), ("a", None), ("a", 1), (True,),
                      (None,), ("ab", ("a", "b")), ("ab", ["a", "b"]), ("a", {"a": 1})]:
            self.assertIs(is_board(thing), False, thing)

    def test_of_anything(self):
        for board in [("a",), ("abc", "abd", "xyz"), ("abcdefghijkl",) * 5]:
            for thing in spoilt(board):
                self.assertIs(is_board(thing), plainly_board(thing), thing)


class FrameOfTest(RefusalCase):
    def test_frame_of_boards_of_each_frame(self):
        for frame in FRAMES:
            for board in some_boards(frame):
                told = frame_of(board)
                self.assertEqual(repr(told), repr(frame))

    def test_of_no_board(self):
        for thing in [*THINGS, *spoilt(("abc", "abd"))]:
            if plainly_board(thing):
                self.assertEqual(frame_of(thing), (len(thing), len(thing[0])))
            else:
                self.refused(NoBoard, frame_of, thing)


if __name__ == "__main__":
    unittest.main()
