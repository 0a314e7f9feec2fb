"""Boards and rows of cuts as texts, there and back."""

from tailswap.boards import is_board, need_board, need_frame
from tailswap.errors import NoText
from tailswap.rows import is_row, need_row

NO_CUTS = "-"
# No frame has numbers of so many figures, and a line of a desk has none of more.
MOST_FIGURES = 12


def board_text(board):
    """Tell a board as a text."""
    need_board(board)
    return "".join([text + "\n" for text in board])


def row_text(frame, row):
    """Tell a row as a text."""
    need_frame(frame)
    need_row(frame, row)
    if not row:
        return NO_CUTS
    return " ".join([f"{place}:{one}x{other}" for place, one, other in row])


def read_board(text):
    """Tell the board that a text writes."""
    if not isinstance(text, str):
        raise NoText()
    lines = text.split("\n")
    board = tuple(lines[:-1])
    # What stands behind the last line end would be a line without one.
    if lines[-1] != "" or not is_board(board):
        raise NoText()
    return board


def _number_written(text):
    """Tell the whole number that a text writes in figures, None where it writes none."""
    if not 1 <= len(text) <= MOST_FIGURES:
        return None
    # Not isdigit: it also takes figures beyond 0 to 9.
    if not all(["0" <= figure <= "9" for figure in text]):
        return None
    if text[0] == "0" and text != "0":
        return None
    return int(text)


def cut_written(text):
    """Tell the place and the two ribbons, whichever numbers, that a text writes as a cut, None where it writes none."""
    place, _, ribbons = text.partition(":")
    one, _, other = ribbons.partition("x")
    numbers = (_number_written(place), _number_written(one), _number_written(other))
    if None in numbers:
        return None
    return numbers


def row_written(text):
    """Tell the cuts, of whichever numbers, that a text writes as a row, None where it writes none."""
    if text == NO_CUTS:
        return ()
    cuts = [cut_written(word) for word in text.split(" ")]
    if None in cuts:
        return None
    return tuple(cuts)


def read_row(frame, text):
    """Tell the row of the frame that a text writes."""
    need_frame(frame)
    if not isinstance(text, str):
        raise NoText()
    row = row_written(text)
    if not is_row(frame, row):
        raise NoText()
    return row
