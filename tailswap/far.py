"""What comes of a row that is played again and again."""

from math import lcm

from tailswap.boards import frame_of, is_whole_from
from tailswap.errors import NoTimes
from tailswap.rows import does, led

MOST_TIMES = 1000000000000


def _times_home(line, ribbon):
    """Tell behind how many times, one or more, the bead of a ribbon lies there again."""
    times = 1
    at = line[ribbon]
    while at != ribbon:
        at = line[at]
        times += 1
    return times


def _round_of_effect(effect):
    """Tell the least number of times, one or more, behind which an effect leaves all as it was."""
    times = 1
    for line in effect:
        for ribbon in range(len(line)):
            times = lcm(times, _times_home(line, ribbon))
    return times


def round_of(frame, row):
    """Tell the least number of times, one or more, behind which a row leaves each bead in place."""
    return _round_of_effect(does(frame, row))


def round_from(board, row):
    """Tell the least number of times, one or more, behind which a row leaves this board as it was."""
    effect = does(frame_of(board), row)
    times = 1
    now = led(board, effect)
    while now != board:
        now = led(now, effect)
        times += 1
    return times


def behind_far(board, row, times):
    """Tell the board behind a row that is played so many times."""
    effect = does(frame_of(board), row)
    if not is_whole_from(times, 0, MOST_TIMES):
        raise NoTimes()
    now = board
    # A million million times can't be played out, but each whole round leaves all as it was.
    for _ in range(times % _round_of_effect(effect)):
        now = led(now, effect)
    return now
