"""Cuts, rows of cuts, and the effects that rows have."""

from tailswap.boards import frame_of, is_whole, need_frame
from tailswap.errors import NoEffect, NoRow


def is_cut(frame, thing):
    """Tell whether thing is a cut of the frame."""
    if not isinstance(thing, tuple) or len(thing) != 3:
        return False
    if not all([is_whole(part) for part in thing]):
        return False
    many, long = frame
    place, one, other = thing
    return 0 <= place < long and 0 <= one < other < many


def is_row(frame, thing):
    """Tell whether thing is a row of cuts of the frame, however long."""
    return isinstance(thing, tuple) and all([is_cut(frame, cut) for cut in thing])


def need_row(frame, row):
    """Refuse what is no row of the frame."""
    if not is_row(frame, row):
        raise NoRow()


def behind(board, row):
    """Tell the board behind a row."""
    need_row(frame_of(board), row)
    texts = list(board)
    for place, one, other in row:
        first = texts[one]
        second = texts[other]
        texts[one] = first[:place] + second[place:]
        texts[other] = second[:place] + first[place:]
    return tuple(texts)


def _line_behind(many, row, at):
    """Tell, for each ribbon, whose bead of the place `at` lies there behind the row."""
    line = list(range(many))
    for place, one, other in row:
        if place <= at:
            line[one], line[other] = line[other], line[one]
    return tuple(line)


def does(frame, row):
    """Tell the effect of a row."""
    need_frame(frame)
    need_row(frame, row)
    many, long = frame
    return tuple([_line_behind(many, row, at) for at in range(long)])


def is_line(many, thing):
    """Tell whether thing is a tuple of each of so many ribbons once."""
    if not isinstance(thing, tuple) or not all([is_whole(ribbon) for ribbon in thing]):
        return False
    return sorted(thing) == list(range(many))


def is_effect(frame, thing):
    """Tell whether thing is an effect of the frame."""
    need_frame(frame)
    many, long = frame
    if not isinstance(thing, tuple) or len(thing) != long:
        return False
    return all([is_line(many, line) for line in thing])


def need_effect(frame, effect):
    """Refuse what is no effect of the frame."""
    if not is_effect(frame, effect):
        raise NoEffect()


def led(board, effect):
    """Tell the board to which an effect leads a board of its frame."""
    frame = frame_of(board)
    need_effect(frame, effect)
    many, long = frame
    texts = []
    for ribbon in range(many):
        beads = [board[effect[place][ribbon]][place] for place in range(long)]
        texts.append("".join(beads))
    return tuple(texts)


def with_two_exchanged(line, one, other):
    """Tell a line, or a joint, in which what stands for two ribbons is exchanged."""
    exchanged = list(line)
    exchanged[one], exchanged[other] = line[other], line[one]
    return tuple(exchanged)


def undoing(frame, row):
    """Tell the row that undoes what a row does."""
    need_frame(frame)
    need_row(frame, row)
    return row[::-1]
