"""The cheapest ways from a board to texts that all or some of its ribbons shall have (None: whatever comes)."""

from itertools import combinations

from tailswap.boards import frame_of, is_told, is_whole, is_whole_from
from tailswap.rows import behind, is_row, with_two_exchanged


def fits(board, texts, place, line):
    """Tell whether a line brings the beads to a place that the texts have there."""
    return all([text is None or text[place] == board[whose][place] for text, whose in zip(texts, line)])


def _with_a_cut_more(ways, place, price):
    """Tell the cheapest of the ways to each line to which none or one more cut at the place leads."""
    cheapest = {line: ways[line] for line in ways}
    for line in ways:
        coins, row = ways[line]
        for one, other in list(combinations(range(len(line)), 2)):
            exchanged = with_two_exchanged(line, one, other)
            if exchanged not in cheapest or coins + price < cheapest[exchanged][0]:
                cheapest[exchanged] = (coins + price, row + ((place, one, other),))
    return cheapest


def _with_cuts_at(ways, many, place, price):
    """Tell the cheapest of the ways to each line to which cuts at the place lead, with no cut where it has no price."""
    if price is None:
        return ways
    # No joint takes as many cuts as there are ribbons.
    for _ in range(many - 1):
        ways = _with_a_cut_more(ways, place, price)
    return ways


def cheapest_way(board, texts, prices):
    """Tell the coins and the row of some cheapest way to the texts, which can be come to at these prices."""
    many = len(board)
    # Exchanges keep how many cuts each place has, so ways of rising places are all that need to be gone through.
    ways = {tuple(range(many)): (0, ())}
    for place, price in enumerate(prices):
        ways = _with_cuts_at(ways, many, place, price)
        ways = {line: ways[line] for line in ways if fits(board, texts, place, line)}
    return min(list(ways.values()))


def is_cheapest_way(board, texts, prices, coins, row):
    """Tell whether coins and row, whatever they are, tell a cheapest way to the texts."""
    if not is_whole(coins) or not is_row(frame_of(board), row):
        return False
    paid = [prices[cut[0]] for cut in row]
    if None in paid or sum(paid) != coins:
        return False
    now = behind(board, row)
    if not all([text is None or text == told for text, told in zip(texts, now)]):
        return False
    return cheapest_way(board, texts, prices)[0] == coins


def _lacks_at(board, texts, place):
    """Tell whether the board has some letter fewer times at a place than the texts have it there."""
    there = [text[place] for text in board]
    wished = [text[place] for text in texts if text is not None]
    return any([wished.count(letter) > there.count(letter) for letter in wished])


def fewest_cuts_to(board, texts):
    """Tell the fewest cuts to the texts and some row of so many, or the least place that lacks a bead for them."""
    _, long = frame_of(board)
    lacking = [place for place in range(long) if _lacks_at(board, texts, place)]
    if lacking:
        return ("lacks", lacking[0])
    cuts, row = cheapest_way(board, texts, (1,) * long)
    return ("cuts", cuts, row)


def shows_fewest_cuts_to(board, texts, thing):
    """Tell whether thing shows the fewest cuts to the texts, or a place that lacks a bead for them."""
    _, long = frame_of(board)
    if is_told(thing, "cuts", 3):
        return is_cheapest_way(board, texts, (1,) * long, thing[1], thing[2])
    if is_told(thing, "lacks", 2):
        return is_whole_from(thing[1], 0, long - 1) and _lacks_at(board, texts, thing[1])
    return False
