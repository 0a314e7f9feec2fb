"""A desk, which keeps a bench and is told lines."""

from tailswap.bench import Bench
from tailswap.boards import frame_of
from tailswap.errors import NoLine
from tailswap.far import round_of
from tailswap.goals import wish
from tailswap.texts import cut_written, row_text, row_written

DONE = "ok"


def _texts_in(words):
    """Tell the texts of ribbons that are written with one blank between; a line without any is none."""
    texts = tuple(words.split(" "))
    for text in texts:
        if text == "" or not all(["a" <= letter <= "z" for letter in text]):
            raise NoLine()
    return texts


def _cut_in(words):
    """Tell the numbers that are written as a cut; a line without these is none."""
    cut = cut_written(words)
    if cut is None:
        raise NoLine()
    return cut


def _row_in(words):
    """Tell the cuts that are written as a row; a line without a row is none."""
    row = row_written(words)
    if row is None:
        raise NoLine()
    return row


class Desk:
    """A bench, at first of the board ("a",), that is told what to do by lines."""

    def __init__(self):
        self._bench = Bench(("a",))

    def say(self, line):
        """Do what a line says, and tell what comes of it."""
        if not isinstance(line, str):
            raise NoLine()
        if line in ("undo", "show", "row", "spare"):
            return self._say_word(line)
        word, _, words = line.partition(" ")
        if word == "board":
            self._bench = Bench(_texts_in(words))
            return DONE
        if word == "fewest":
            return self._say_fewest(_texts_in(words))
        if word == "cut":
            place, one, other = _cut_in(words)
            self._bench.cut(place, one, other)
            return DONE
        if word == "play":
            self._bench.play(_row_in(words))
            return DONE
        if word == "round":
            return str(round_of(self._frame_now(), _row_in(words)))
        raise NoLine()

    def _frame_now(self):
        """Tell the frame of the bench."""
        return frame_of(self._bench.board())

    def _say_word(self, word):
        """Do what a line of one word says."""
        if word == "undo":
            self._bench.undo()
            return DONE
        if word == "show":
            return " ".join(self._bench.board())
        if word == "row":
            return row_text(self._frame_now(), self._bench.row())
        return str(self._bench.spare())

    def _say_fewest(self, goal):
        """Tell the fewest cuts to a goal, or the least place that lacks."""
        told = wish(self._bench.board(), goal)
        if told[0] == "cuts":
            return str(told[1])
        return f"lacks {told[1]}"
