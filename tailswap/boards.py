"""Frames and boards: how many ribbons and places there are, and their beads."""

from tailswap.errors import NoBoard, NoFrame, NoPlace, NoRibbon

MOST_RIBBONS = 5
MOST_PLACES = 12


def is_whole(thing):
    """Tell whether thing is a whole number, which a truth is not."""
    return isinstance(thing, int) and not isinstance(thing, bool)


def is_whole_from(thing, least, most):
    """Tell whether thing is a whole number from least to most."""
    return is_whole(thing) and least <= thing <= most


def is_told(thing, word, size):
    """Tell whether thing is a tuple of this size that begins by the word."""
    return isinstance(thing, tuple) and len(thing) == size and thing[0] == word


def is_frame(thing):
    """Tell whether thing is a frame."""
    if not isinstance(thing, tuple) or len(thing) != 2:
        return False
    many, long = thing
    return is_whole_from(many, 1, MOST_RIBBONS) and is_whole_from(long, 1, MOST_PLACES)


def need_frame(frame):
    """Refuse what is no frame."""
    if not is_frame(frame):
        raise NoFrame()


def need_place(frame, place):
    """Refuse what is no place of the frame."""
    if not is_whole_from(place, 0, frame[1] - 1):
        raise NoPlace()


def need_ribbon(frame, ribbon):
    """Refuse what is no ribbon of the frame."""
    if not is_whole_from(ribbon, 0, frame[0] - 1):
        raise NoRibbon()


def is_ribbon_text(thing):
    """Tell whether thing is the text of one ribbon of some board."""
    if not isinstance(thing, str) or not 1 <= len(thing) <= MOST_PLACES:
        return False
    # Not islower: it also takes letters beyond a to z, and other signs beside letters.
    return all(["a" <= letter <= "z" for letter in thing])


def is_board(thing):
    """Tell whether thing is a board."""
    if not isinstance(thing, tuple) or not 1 <= len(thing) <= MOST_RIBBONS:
        return False
    if not all([is_ribbon_text(text) for text in thing]):
        return False
    return all([len(text) == len(thing[0]) for text in thing])


def need_board(board):
    """Refuse what is no board."""
    if not is_board(board):
        raise NoBoard()


def frame_of(board):
    """Tell the frame of a board."""
    need_board(board)
    return (len(board), len(board[0]))
