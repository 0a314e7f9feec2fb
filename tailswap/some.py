"""Wishes for some ribbons alone, and the pieces that ribbons are made of."""

from tailswap.boards import frame_of, is_ribbon_text, need_ribbon
from tailswap.cheapest import fewest_cuts_to, shows_fewest_cuts_to
from tailswap.errors import NoWishes
from tailswap.rows import need_effect


def _need_wishes(board, wishes):
    """Refuse what are no wishes of a board."""
    many, long = frame_of(board)
    if not isinstance(wishes, tuple) or len(wishes) != many:
        raise NoWishes()
    texts = [text for text in wishes if text is not None]
    if not all([is_ribbon_text(text) and len(text) == long for text in texts]):
        raise NoWishes()


def some_wish(board, wishes):
    """Tell the fewest cuts behind which all wished ribbons are so, and some such row, or the least place that lacks."""
    _need_wishes(board, wishes)
    return fewest_cuts_to(board, wishes)


def shows_some(board, wishes, thing):
    """Tell whether thing shows the fewest cuts to what is wished, or that none lead there."""
    _need_wishes(board, wishes)
    return shows_fewest_cuts_to(board, wishes, thing)


def pieces(frame, effect, ribbon):
    """Tell the longest runs of a ribbon's beads that come of one ribbon: that one, the first place, the last one."""
    need_effect(frame, effect)
    need_ribbon(frame, ribbon)
    told = []
    for place, line in enumerate(effect):
        first = place
        if told and told[-1][0] == line[ribbon]:
            first = told.pop()[1]
        told.append((line[ribbon], first, place))
    return tuple(told)


def how_many_pieces(frame, effect):
    """Tell how many pieces the ribbons have together."""
    need_effect(frame, effect)
    return sum([len(pieces(frame, effect, ribbon)) for ribbon in range(frame[0])])
