"""[90]: boards and rows as texts."""

import itertools
import re
import unittest

from tailswap.errors import NoBoard, NoFrame, NoRow, NoText
from tailswap.texts import board_text, read_board, read_row, row_text
from tests.plain import (
    FRAMES, THINGS, boards_of, cuts_of, plainly_frame, plainly_row, rows_of, some_boards, some_rows, spoilt,
    unlike_board,
)
from tests.refusals import NO_BOARDS, RefusalCase

BOARD = ("abcd", "efgh", "ijkl")
FRAME = (3, 4)
ROW = ((1, 0, 2), (0, 1, 2), (3, 0, 1))
SIGNS = "0123459:x- \nabzAX,;_+.\t\r'`{/\u00b2\u0663\u0967\uff11\u00e9\u0430"


def edited(text):
    """Yield a text with each sign otherwise, left out, put in, twice, and with two next ones exchanged."""
    for at in range(len(text) + 1):
        for sign in SIGNS:
            yield text[:at] + sign + text[at:]
            yield text[:at] + sign + text[at + 1:]
        yield text[:at] + text[at + 1:]
        yield text[:at] + text[at:at + 1] + text[at:]
        yield text[:at] + text[at + 1:at + 2] + text[at:at + 1] + text[at + 2:]
        yield text[:at]
        yield text[at:]


def plainly_written_board(text):
    if type(text) is not str or re.fullmatch("([a-z]{1,12}\n){1,5}", text) is None:
        return False
    return len({len(line) for line in text[:-1].split("\n")}) == 1


def row_of_text(frame, text):
    """Tell the row of the frame that a text writes, None where it writes none, by all that its cuts could be."""
    known = {f"{place}:{one}x{other}": (place, one, other) for place, one, other in cuts_of(frame)}
    if text == "-":
        return ()
    cuts = [known.get(word) for word in text.split(" ")]
    return None if None in cuts else tuple(cuts)


class BoardTextTest(RefusalCase):
    def test_known_texts(self):
        self.assertEqual(board_text(BOARD), "abcd\nefgh\nijkl\n")
        self.assertEqual(board_text(("a",)), "a\n")
        self.assertEqual(board_text(("abcdefghijkl",) * 5), "abcdefghijkl\n" * 5)

    def test_there_and_back(self):
        for frame in FRAMES:
            for board in some_boards(frame):
                text = board_text(board)
                self.assertEqual(text, "".join(f"{line}\n" for line in board))
                self.assertEqual(repr(read_board(text)), repr(board))
                self.assertEqual(board_text(read_board(text)), text)
        for board in boards_of((2, 2), "abz"):
            self.assertEqual(read_board(board_text(board)), board)

    def test_of_no_board(self):
        for thing in NO_BOARDS:
            self.refused(NoBoard, board_text, thing)


class ReadBoardTest(RefusalCase):
    def test_each_edit(self):
        for board in [("a",), ("ab", "cd"), BOARD, ("a",) * 5, ("abcdefghijkl",) * 5, ("abcdefghijkl",)]:
            text = board_text(board)
            self.assertTrue(plainly_written_board(text))
            for other in edited(text):
                if plainly_written_board(other):
                    self.assertEqual(read_board(other), tuple(other[:-1].split("\n")))
                    self.assertEqual(board_text(read_board(other)), other)
                else:
                    self.refused(NoText, read_board, other)

    def test_lines_left_out_twice_or_put_in(self):
        for text in [
            "", "\n", "a", "ab\ncd", "ab\n\ncd\n", "\nab\ncd\n", "ab\ncd\n\n", "ab\nc\n", "a\nbc\n", "a\n" * 6,
            "abcdefghijklm\n", "ab\nCD\n", "ab\nc1\n", "ab \ncd\n", " ab\ncd\n", "ab\r\ncd\r\n", "ab\rcd\r", "ab cd\n",
            "ab\ncd\n-\n", "ab\n\n", "ab\n \n", "ab\x0bcd\n", "ab\x1ccd\n", "ab\u2028cd\n", "\u00e9\n", "\u0430\n",
            "a\n\x00", "-", "0", "a-\n", "a" * 600, "a\n" * 300, "\n" * 600,
        ]:
            self.refused(NoText, read_board, text)

    def test_of_what_is_no_text(self):
        for thing in THINGS:
            if plainly_written_board(thing):
                self.assertEqual(board_text(read_board(thing)), thing)
            else:
                self.refused(NoText, read_board, thing)
        for thing in [b"a\n", ("a\n",), ["a\n"], BOARD, {"a\n": 1}]:
            self.refused(NoText, read_board, thing)


class RowTextTest(RefusalCase):
    def test_known_texts(self):
        self.assertEqual(row_text(FRAME, ((3, 0, 2),)), "3:0x2")
        self.assertEqual(row_text(FRAME, ROW), "1:0x2 0:1x2 3:0x1")
        self.assertEqual(row_text(FRAME, ()), "-")
        self.assertEqual(row_text((1, 1), ()), "-")
        self.assertEqual(row_text((5, 12), ((11, 3, 4), (10, 0, 4), (11, 3, 4))), "11:3x4 10:0x4 11:3x4")

    def test_there_and_back(self):
        for frame in FRAMES:
            for row in [*some_rows(frame), *[(cut,) for cut in cuts_of(frame)]]:
                text = row_text(frame, row)
                self.assertEqual(text, " ".join(f"{place}:{one}x{other}" for place, one, other in row) or "-")
                self.assertEqual(repr(read_row(frame, text)), repr(row))
                self.assertEqual(row_text(frame, read_row(frame, text)), text)
        for length in range(3):
            for row in rows_of((3, 2), length):
                self.assertEqual(read_row((3, 2), row_text((3, 2), row)), row)

    def test_a_row_that_was_told_may_be_however_long(self):
        row = ROW * 2000
        self.assertEqual(read_row(FRAME, row_text(FRAME, row)), row)

    def test_refusals_in_their_order(self):
        self.refused_without_frame(row_text, ROW)
        for thing in spoilt(ROW):
            if plainly_row(FRAME, thing):
                self.assertEqual(read_row(FRAME, row_text(FRAME, thing)), thing)
            else:
                self.refused(NoRow, row_text, FRAME, thing)


class ReadRowTest(RefusalCase):
    def test_each_edit(self):
        for frame, text in [
            (FRAME, "1:0x2 0:1x2"), (FRAME, "-"), (FRAME, "3:0x1"), ((5, 12), "11:3x4 10:0x4"), ((1, 1), "-"),
        ]:
            self.assertIsNot(row_of_text(frame, text), None)
            for other in edited(text):
                row = row_of_text(frame, other)
                if row is None:
                    self.refused(NoText, read_row, frame, other)
                else:
                    self.assertEqual(repr(read_row(frame, other)), repr(row))

    def test_all_short_texts(self):
        for length in range(1, 6):
            for signs in itertools.product("012:x" if length > 3 else "012:x- ", repeat=length):
                text = "".join(signs)
                row = row_of_text((3, 2), text)
                if row is None:
                    self.refused(NoText, read_row, (3, 2), text)
                else:
                    self.assertEqual(read_row((3, 2), text), row)

    def test_words_otherwise(self):
        for text in [
            "", " ", "- ", " -", "--", "- -", "-  -", "- 1:0x2", "1:0x2 -", "1:0x2  0:1x2", " 1:0x2", "1:0x2 ",
            "1:0x2\n", "1:0x2\n0:1x2", "1:0x2\t0:1x2", "1:0x2,0:1x2", "1:2x0", "1:0x0", "4:0x1", "0:0x3", "0:3x4",
            "12:0x1",
            "01:0x2", "00:0x1", "1:00x2", "1:0x02", "+1:0x2", "-1:0x2", "1:+0x2", "1:0x+2", "1_:0x2", "1:0_0x2",
            "1: 0x2", "1 :0x2", "1:0 x2", "1:0x 2", "1:0X2", "1;0x2", "1:0:2", "1x0:2", "1:02", "10x2", ":0x2",
            "1:x2", "1:0x",
            "1", "1:", "1:0", "x", ":", ":x", "1:0x2x2", "1:1:0x2", "1:0xx2", "1::0x2", "0x1:2", "\u0661:0x2",
            "1:\uff10x2",
            "1:0x\u00b2", "1:0x2" * 2, "1.0:0x2", "1e0:0x2", "0x1:0x2", "(1, 0, 2)", "9999999999999:0x1",
            "1000000000000:0x1", "0:0x" + "9" * 590, "0" * 600, "9" * 6000 + ":0x1",
        ]:
            self.refused(NoText, read_row, FRAME, text)

    def test_bounds_of_each_frame(self):
        for frame in FRAMES:
            many, long = frame
            for place, one, other in [(long, 0, 1), (0, 0, many), (0, many - 1, many), (0, 0, 0), (0, 1, 0)]:
                self.refused(NoText, read_row, frame, f"{place}:{one}x{other}")
            if many > 1:
                told = read_row(frame, f"{long - 1}:{many - 2}x{many - 1}")
                self.assertEqual(told, ((long - 1, many - 2, many - 1),))
            self.assertEqual(read_row(frame, "-"), ())

    def test_of_what_is_no_text(self):
        for thing in THINGS:
            self.refused(NoText, read_row, FRAME, thing)
        for thing in [b"-", ("-",), ["-"], (), ROW, ((0, 0, 1),), {"-": 1}]:
            self.refused(NoText, read_row, FRAME, thing)

    def test_of_no_frame_first(self):
        self.refused_without_frame(read_row, "-")
        self.refused_without_frame(row_text, ())
        for thing in THINGS:
            if not plainly_frame(thing):
                for text in ("-", "", "9:9x9", None, thing):
                    self.refused(NoFrame, read_row, thing, text)


class BothTest(unittest.TestCase):
    def test_each_text_is_read_just_as_it_was_written(self):
        texts = {board_text(board) for board in boards_of((2, 2), "abc")}
        self.assertEqual(len(texts), 3 ** 4)
        rows = {row_text((3, 3), row) for length in range(3) for row in rows_of((3, 3), length)}
        self.assertEqual(len(rows), 1 + 9 + 81)
        self.assertEqual(read_board(board_text(unlike_board((5, 12)))), unlike_board((5, 12)))


if __name__ == "__main__":
    unittest.main()
