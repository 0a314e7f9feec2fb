"""For how few coins a board leads to another one, where each place has its price or may not be cut."""

from math import factorial

from tailswap.boards import frame_of, is_told, is_whole, is_whole_from
from tailswap.cheapest import cheapest_way, is_cheapest_way
from tailswap.errors import NoPrices
from tailswap.goals import need_goal

MOST_COINS = 9


def _need_prices(board, prices):
    """Refuse what are no prices for the places of a board."""
    _, long = frame_of(board)
    if not isinstance(prices, tuple) or len(prices) != long:
        raise NoPrices()
    if not all([price is None or is_whole_from(price, 1, MOST_COINS) for price in prices]):
        raise NoPrices()


def _pieces_at(prices):
    """Tell the first place and the last one of each piece."""
    firsts = [place for place, price in enumerate(prices) if place == 0 or price is not None]
    lasts = [place - 1 for place in firsts[1:]] + [len(prices) - 1]
    return list(zip(firsts, lasts))


def _texts_within(board, piece):
    """Tell the texts of a board's ribbons within a piece."""
    first, last = piece
    return [text[first:last + 1] for text in board]


def _is_there(board, goal, prices, piece):
    """Tell whether a board has the piece of a goal."""
    had = _texts_within(board, piece)
    wanted = _texts_within(goal, piece)
    # Just the piece at place 0 may begin where no cut may be: it stays as it is.
    if prices[piece[0]] is None:
        return had == wanted
    return sorted(had) == sorted(wanted)


def _pieces_lacking(board, goal, prices):
    """Tell the pieces of a goal that aren't there, the least first."""
    return [piece for piece in _pieces_at(prices) if not _is_there(board, goal, prices, piece)]


def priced(board, goal, prices):
    """Tell the least coins from a board to a goal and some row of so many, or the least piece that isn't there."""
    need_goal(board, goal)
    _need_prices(board, prices)
    lacking = _pieces_lacking(board, goal, prices)
    if lacking:
        return ("lacks", lacking[0][0], lacking[0][1])
    coins, row = cheapest_way(board, goal, prices)
    return ("coins", coins, row)


def shows_priced(board, goal, prices, thing):
    """Tell whether thing shows the least coins from a board to a goal, or that no coins lead there."""
    need_goal(board, goal)
    _need_prices(board, prices)
    if is_told(thing, "coins", 3):
        return is_cheapest_way(board, goal, prices, thing[1], thing[2])
    if is_told(thing, "lacks", 3):
        # A truth would be found among the places as well.
        places = is_whole(thing[1]) and is_whole(thing[2])
        return places and thing[1:] in _pieces_lacking(board, goal, prices)
    return False


def _ways_to_lay(texts):
    """Tell in how many unlike orders the texts can be laid."""
    number = factorial(len(texts))
    for text in sorted(set(texts)):
        number = number // factorial(texts.count(text))
    return number


def how_many_boards(board, prices):
    """Tell how many boards a board leads to by cuts at places that may be cut, itself too."""
    _need_prices(board, prices)
    number = 1
    for piece in _pieces_at(prices):
        if prices[piece[0]] is not None:
            number = number * _ways_to_lay(_texts_within(board, piece))
    return number
