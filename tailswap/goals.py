"""Whether a board can be come to from another one, and by how few cuts."""

from tailswap.boards import frame_of, is_board
from tailswap.cheapest import fewest_cuts_to, shows_fewest_cuts_to
from tailswap.errors import NoGoal


def need_goal(board, goal):
    """Refuse what is no board, then what is no board of the same frame."""
    frame = frame_of(board)
    if not is_board(goal) or frame_of(goal) != frame:
        raise NoGoal()


def wish(board, goal):
    """Tell the fewest cuts from a board to a goal and some row of so many, or the least place that lacks."""
    need_goal(board, goal)
    return fewest_cuts_to(board, goal)


def shows_wish(board, goal, thing):
    """Tell whether thing shows the fewest cuts from a board to a goal, or that none lead there."""
    need_goal(board, goal)
    return shows_fewest_cuts_to(board, goal, thing)
