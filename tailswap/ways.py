"""How many rows of just so many cuts lead from a board to another one."""

from itertools import combinations, permutations
from math import comb

from tailswap.boards import is_whole_from
from tailswap.cheapest import fits
from tailswap.errors import NoCuts
from tailswap.goals import need_goal
from tailswap.rows import with_two_exchanged

MOST_CUTS = 12


def _lines_behind_a_cut(many):
    """Tell, for each line of so many ribbons, the lines behind one cut."""
    pairs = list(combinations(range(many), 2))
    lines = list(permutations(range(many)))
    return {line: [with_two_exchanged(line, one, other) for one, other in pairs] for line in lines}


def _with_a_cut_more(rows, lines_behind):
    """Tell how many rows lead to each line, if each has one cut more."""
    told = {}
    for line in rows:
        for further in lines_behind[line]:
            told[further] = told.get(further, 0) + rows[line]
    return told


def _with_cuts_at_a_place(rows, lines_behind):
    """Tell how many rows of none, one, .. cuts lead to each line, if they have any cuts at one place more."""
    told = [{} for _ in rows]
    for cuts, ahead in enumerate(rows):
        now = ahead
        for more in range(len(rows) - cuts):
            # Those at this place stand among the others in all ways.
            put = comb(cuts + more, more)
            sums = told[cuts + more]
            for line in now:
                sums[line] = sums.get(line, 0) + put * now[line]
            now = _with_a_cut_more(now, lines_behind)
    return told


def how_many_lead(board, goal, cuts):
    """Tell how many rows of just so many cuts lead from a board to a goal."""
    need_goal(board, goal)
    if not is_whole_from(cuts, 0, MOST_CUTS):
        raise NoCuts()
    many = len(board)
    lines_behind = _lines_behind_a_cut(many)
    rows = [{} for _ in range(cuts + 1)]
    rows[0][tuple(range(many))] = 1
    for place in range(len(board[0])):
        rows = _with_cuts_at_a_place(rows, lines_behind)
        rows = [{line: told[line] for line in told if fits(board, goal, place, line)} for told in rows]
    return sum(list(rows[cuts].values()))
