"""[91]: a desk."""

import inspect
import random
import re
import unittest

from tailswap.desk import Desk
from tailswap.errors import NoBoard, NoCut, NoGoal, NoLine, NoRow, NothingDone
from tests.plain import (
    FRAMES, THINGS, boards_by_cuts, cuts_of, mixed_board, plain_behind, plain_coins, plain_effect, plain_fewest,
    plain_frame, plain_round, plainly_board, plainly_row, some_boards, some_rows,
)
from tests.refusals import RefusalCase

NUMBER = "(?:0|[1-9][0-9]{0,11})"
CUT = f"{NUMBER}:{NUMBER}x{NUMBER}"
ROW = f"(?:-|{CUT}(?: {CUT})*)"
TEXTS = "[a-z]+(?: [a-z]+)*"
FORM = re.compile(f"(undo|show|row|spare)|(board|fewest) ({TEXTS})|(cut) ({CUT})|(play|round) ({ROW})")
SIGNS = "019:x- \nabzAX,_+\u00b2\u0661\u00e9"


def as_text(row):
    return " ".join(f"{place}:{one}x{other}" for place, one, other in row) or "-"


def as_row(text):
    """Tell the numbers of a row's text."""
    if text == "-":
        return ()
    return tuple(tuple(map(int, re.split("[:x]", word))) for word in text.split(" "))


class PlainDesk:
    """A desk by the point's words, played out bead by bead; it tells an error's class where it refuses."""

    def __init__(self):
        self.first = ("a",)
        self.deeds = []

    def row(self):
        return sum(self.deeds, ())

    def board(self):
        return plain_behind(self.first, self.row())

    def say(self, line):
        found = FORM.fullmatch(line) if type(line) is str else None
        if found is None:
            return NoLine
        word, *rest = [group for group in found.groups() if group is not None]
        return getattr(self, f"say_{word}")(*rest)

    def say_undo(self):
        if not self.deeds:
            return NothingDone
        self.deeds.pop()
        return "ok"

    def say_show(self):
        return " ".join(self.board())

    def say_row(self):
        return as_text(self.row())

    def say_spare(self):
        effect = plain_effect(plain_frame(self.first), self.row())
        return str(len(self.row()) - plain_fewest(effect))

    def say_board(self, texts):
        board = tuple(texts.split(" "))
        if not plainly_board(board):
            return NoBoard
        self.first, self.deeds = board, []
        return "ok"

    def say_fewest(self, texts):
        goal, board = tuple(texts.split(" ")), self.board()
        if not plainly_board(goal) or plain_frame(goal) != plain_frame(board):
            return NoGoal
        for place in range(len(board[0])):
            if sorted(text[place] for text in board) != sorted(text[place] for text in goal):
                return f"lacks {place}"
        return str(plain_coins(board, goal, (1,) * len(board[0])))

    def say_cut(self, text):
        return self.done(as_row(text), NoCut)

    def say_play(self, text):
        return self.done(as_row(text), NoRow)

    def done(self, row, error):
        if not plainly_row(plain_frame(self.first), row):
            return error
        self.deeds.append(row)
        return "ok"

    def say_round(self, text):
        row = as_row(text)
        if not plainly_row(plain_frame(self.first), row):
            return NoRow
        return str(plain_round(plain_frame(self.first), row))


class DeskCase(RefusalCase):
    def say(self, desk, *lines):
        """Say lines that are taken, and tell what comes of the last one."""
        for line in lines[:-1]:
            desk.say(line)
        return desk.say(lines[-1])

    def all_of(self, desk):
        return [desk.say(line) for line in ("show", "row", "spare")]

    def refused_and_as_it_was(self, error, desk, line):
        before = self.all_of(desk)
        self.refused(error, desk.say, line)
        self.assertEqual(self.all_of(desk), before)

    def says_as(self, plain, desk, line):
        told = plain.say(line)
        if isinstance(told, str):
            self.assertEqual(repr(desk.say(line)), repr(told), line)
        else:
            self.refused(told, desk.say, line)


class LinesTest(DeskCase):
    def test_at_first(self):
        desk = Desk()
        self.assertEqual(self.all_of(desk), ["a", "-", "0"])
        self.assertEqual(desk.say("fewest a"), "0")
        self.assertEqual(desk.say("fewest b"), "lacks 0")
        self.assertEqual(desk.say("round -"), "1")
        self.refused(NothingDone, desk.say, "undo")
        self.refused(NoCut, desk.say, "cut 0:0x1")

    def test_a_day_at_the_desk(self):
        desk = Desk()
        self.assertEqual(desk.say("board abcd efgh ijkl"), "ok")
        self.assertEqual(desk.say("show"), "abcd efgh ijkl")
        self.assertEqual(desk.say("cut 1:0x2"), "ok")
        self.assertEqual(desk.say("show"), "ajkl efgh ibcd")
        self.assertEqual(desk.say("play 2:1x2 2:1x2"), "ok")
        self.assertEqual(desk.say("row"), "1:0x2 2:1x2 2:1x2")
        self.assertEqual(desk.say("spare"), "2")
        self.assertEqual(desk.say("fewest abcd efgh ijkl"), "1")
        self.assertEqual(desk.say("fewest ajkl efgh ibcz"), "lacks 3")
        self.assertEqual(desk.say("round 1:0x2 2:1x2"), "6")
        self.assertEqual(desk.say("play -"), "ok")
        self.assertEqual(desk.say("row"), "1:0x2 2:1x2 2:1x2")
        self.assertEqual(desk.say("undo"), "ok")
        self.assertEqual(desk.say("undo"), "ok")
        self.assertEqual(desk.say("row"), "1:0x2")
        self.assertEqual(desk.say("spare"), "0")
        self.assertEqual(desk.say("undo"), "ok")
        self.assertEqual(desk.say("row"), "-")
        self.refused(NothingDone, desk.say, "undo")
        self.assertEqual(desk.say(line="board zz"), "ok")
        self.assertEqual(self.all_of(desk), ["zz", "-", "0"])
        self.refused(NothingDone, desk.say, "undo")

    def test_a_board_anew_has_no_deeds(self):
        desk = Desk()
        self.say(desk, "board ab cd", "cut 0:0x1", "board ab cd")
        self.assertEqual(self.all_of(desk), ["ab cd", "-", "0"])
        self.refused_and_as_it_was(NothingDone, desk, "undo")

    def test_fewest_of_all_boards_to_which_cuts_lead(self):
        for board in [("abc", "abd", "acd"), ("ab", "cd", "ef"), ("aabb", "abab")]:
            desk = Desk()
            desk.say("board " + " ".join(board))
            for goal, fewest in boards_by_cuts(board).items():
                self.assertEqual(desk.say("fewest " + " ".join(goal)), str(fewest))

    def test_fewest_is_of_the_board_that_stands(self):
        desk = Desk()
        self.say(desk, "board ab cd", "cut 1:0x1")
        self.assertEqual(desk.say("fewest ad cb"), "0")
        self.assertEqual(desk.say("fewest ab cd"), "1")

    def test_large_boards(self):
        board, goal = mixed_board((5, 12), "abc")
        desk = Desk()
        desk.say("board " + " ".join(board))
        told = desk.say("fewest " + " ".join(goal))
        self.assertEqual(told, str(plain_coins(board, goal, (1,) * 12)))

    def test_rounds(self):
        for frame in FRAMES:
            desk = Desk()
            desk.say("board " + " ".join(some_boards(frame)[1]))
            for row in some_rows(frame, (0, 1, 2, 3, 7)):
                self.assertEqual(desk.say("round " + as_text(row)), str(plain_round(frame, row)))
            self.assertEqual(desk.say("row"), "-")

    def test_whatever_lines(self):
        for frame in FRAMES:
            chooser = random.Random(f"{frame} desk")
            desk, plain = Desk(), PlainDesk()
            board, goal = mixed_board(frame, "abc")
            self.says_as(plain, desk, "board " + " ".join(board))
            rows = some_rows(frame, (0, 1, 2, 3, 9))
            for _ in range(25):
                row = as_text(chooser.choice(rows))
                line = chooser.choice([
                    "undo", "show", "row", "spare", "play " + row, "round " + row, "fewest " + " ".join(goal),
                    *(f"cut {place}:{one}x{other}" for place, one, other in cuts_of(frame)[:6]), "cut 0:1x0",
                    "play 12:0x1", "fewest a b", "board abc ab", "undo ", "cut 3:0x5 0:0x1",
                ])
                self.says_as(plain, desk, line)
            for line in ("show", "row", "spare"):
                self.says_as(plain, desk, line)


class RefusedLinesTest(DeskCase):
    def at_work(self):
        """Tell a desk of three ribbons of four places with deeds that can be undone, and one alike by the words."""
        desk, plain = Desk(), PlainDesk()
        for line in ("board abcd efgh ijkl", "cut 1:0x2", "play 2:1x2 0:0x1"):
            self.says_as(plain, desk, line)
        return desk, plain

    def test_each_edit_of_each_form_of_line(self):
        for line in [
            "undo", "show", "row", "spare", "cut 3:0x2", "play 1:0x2 3:1x2", "play -", "round 2:0x1",
            "fewest abcd efgh ijkl",
            "board ab cd", "fewest a", "board z", "cut 10:0x1", "round -",
        ]:
            for at in range(len(line) + 1):
                edits = {line[:at] + line[at + 1:], line[:at] + line[at:at + 1] + line[at:], line[:at], line[at:]}
                edits |= {line[:at] + sign + line[at:] for sign in SIGNS}
                edits |= {line[:at] + sign + line[at + 1:] for sign in SIGNS}
                edits |= {line[:at].upper() + line[at:], line[:at] + line[at:].upper()}
                for other in sorted(edits):
                    desk, plain = self.at_work()
                    self.says_as(plain, desk, other)
                    for asked in ("show", "row", "spare"):
                        self.says_as(plain, desk, asked)

    def test_no_such_line(self):
        desk, _ = self.at_work()
        for line in [
            "", " ", "  ", "\n", "undo ", " undo", "undo undo", "undo 1", "Undo", "UNDO", "undo\n", "und", "undoo",
            "show all",
            "shows", "row -", "row 0:0x1", "rows", "spare 0", "board", "board ", "board  ab", "board ab ",
            "board ab  cd",
            " board ab", "board  ab cd", "board Ab cd", "board ab1 cd", "board ab,cd", "board ab\ncd", "board ab\n",
            "board -", "Board ab", "boards ab", "board\tab", "boardab", "fewest", "fewest ", "fewest ab ", "fewest AB",
            "fewest a1", "fewest -", "fewest  ab", "fewest ab  cd", "cut", "cut ", "cut -", "cut 1", "cut 1:0",
            "cut 1:0x",
            "cut 1:0x2 ", "cut  1:0x2", "cut 1:0x2 2:0x1", "cut 01:0x2", "cut 1:00x2", "cut 1:0x02", "cut 1:0X2",
            "cut +1:0x2", "cut -1:0x2", "cut 1_0:0x2", "cut 1:0x2\n", "cut a:bxc", "cut 1 0 2", "cut 1 : 0x2",
            "cut 1:0-2",
            "cut 1000000000000:0x1", "cut 0:0x1000000000000", "cut 0:1000000000000x1", "cut \u0661:0x2",
            "cut 1:0x\u00b2",
            "play", "play ", "play - ", "play  -", "play --", "play - -", "play 1:0x2  2:0x1", "play 1:0x2 ",
            "play 1:0x2 -",
            "play 1:0x2,2:0x1", "play 1000000000000:0x1", "play 0:0x1 01:0x1", "play ()", "play 1", "plays -", "round",
            "round ", "round 1:0x2 ", "round 1", "round  -", "round - ", "round 0:0x01", "rounds -",
            "round 1000000000000:0x1",
            "twin", "len", "whose 0 0", "lacks 0", "ok", "help", "quit", "a", "board a \u00e9", "board \u0430",
            "undo\tundo", "show\x00", "row\r", "a" * 600, "board " + "a " * 297, "play " + "0:0x1 " * 99,
        ]:
            self.refused_and_as_it_was(NoLine, desk, line)

    def test_things_that_are_no_texts(self):
        desk, _ = self.at_work()
        for thing in THINGS:
            if not isinstance(thing, str) or FORM.fullmatch(thing) is None:
                self.refused_and_as_it_was(NoLine, desk, thing)
        for thing in [b"undo", ("undo",), ["undo"], {"undo": 1}, ("cut", "1:0x2")]:
            self.refused_and_as_it_was(NoLine, desk, thing)

    def test_no_board(self):
        desk, _ = self.at_work()
        for texts in ["ab c", "a bc", "abcdefghijklm", "a b c d e f", "abcd efg ijkl", "a " * 9 + "a", "a" * 500]:
            self.refused_and_as_it_was(NoBoard, desk, f"board {texts}")

    def test_no_cut(self):
        desk, _ = self.at_work()
        for cut in [
            "4:0x1", "0:0x3", "0:3x4", "0:1x0", "0:2x1", "0:0x0", "0:2x2", "12:0x1", "999999999999:0x1",
            "0:0x999999999999",
            "0:999999999999x1", "100000000000:0x1",
        ]:
            self.refused_and_as_it_was(NoCut, desk, f"cut {cut}")
            self.refused_and_as_it_was(NoRow, desk, f"play {cut}")
            self.refused_and_as_it_was(NoRow, desk, f"play 0:0x1 {cut}")
            self.refused_and_as_it_was(NoRow, desk, f"play {cut} 0:0x1")
            self.refused_and_as_it_was(NoRow, desk, f"round {cut}")
            self.refused_and_as_it_was(NoRow, desk, f"round 0:0x1 {cut}")

    def test_no_goal(self):
        desk, _ = self.at_work()
        for texts in [
            "abcd efgh", "abcd", "abcd efgh ijkl mnop", "abc efg ijk", "abcde fghij klmno", "abcd efgh ijk", "a",
            "ab c",
            "abcd efgh ijklm", "a b c d e f", "abcdefghijklm",
        ]:
            self.refused_and_as_it_was(NoGoal, desk, f"fewest {texts}")

    def test_nothing_done(self):
        desk, _ = self.at_work()
        self.say(desk, "undo", "undo")
        self.refused_and_as_it_was(NothingDone, desk, "undo")
        self.refused_and_as_it_was(NothingDone, Desk(), "undo")

    def test_what_is_refused_leaves_the_deeds_to_be_undone(self):
        desk, plain = self.at_work()
        for line in ["board ab c", "cut 9:0x1", "play 0:0x1 9:0x1", "fewest a", "fly", None, "round 0:1x0"]:
            self.says_as(plain, desk, line)
        for line in ["undo", "show", "row", "undo", "show", "row", "undo"]:
            self.says_as(plain, desk, line)


class DesksTest(DeskCase):
    def test_another_desk_stays_as_it_was(self):
        one, other = Desk(), Desk()
        self.say(one, "board ab cd", "cut 0:0x1")
        self.assertEqual(self.all_of(other), ["a", "-", "0"])
        self.say(other, "board ab cd", "cut 1:0x1")
        self.assertEqual(self.all_of(one), ["cd ab", "0:0x1", "0"])
        self.say(one, "undo")
        self.assertEqual(self.all_of(other), ["ad cb", "1:0x1", "0"])

    def test_the_same_asked_again(self):
        desk = Desk()
        self.say(desk, "board abc abd", "play 0:0x1 2:0x1")
        for line in ["show", "row", "spare", "fewest abd abc", "fewest abd abd", "round 1:0x1", "show"]:
            self.assertEqual(desk.say(line), desk.say(line))
        self.assertEqual(desk.say("row"), "0:0x1 2:0x1")

    def test_say_stands_in_the_class_itself(self):
        self.assertEqual(list(inspect.signature(vars(Desk)["say"]).parameters), ["self", "line"])
        self.assertEqual(list(inspect.signature(Desk).parameters), [])
        self.assertEqual(Desk.__module__, "tailswap.desk")


if __name__ == "__main__":
    unittest.main()
