"""How many rows have an effect and just so many cuts, and how many effects take so many."""

from itertools import combinations, permutations
from math import comb

from tailswap.boards import is_whole_from, need_frame
from tailswap.errors import NoCuts
from tailswap.joints import fewest, joints, rounds_of
from tailswap.rows import with_two_exchanged

MOST_CUTS = 48


def _need_cuts(cuts):
    """Refuse what is no number of cuts."""
    if not is_whole_from(cuts, 0, MOST_CUTS):
        raise NoCuts()


def _kind_of(joint):
    """Tell how long the rounds of a joint are, on which alone it hangs how many rows turn it so."""
    return tuple(sorted([len(ribbons) for ribbons in rounds_of(joint)]))


def _kinds_behind(joint):
    """Tell the kinds that exchanges make of a joint, one for each exchange."""
    pairs = list(combinations(range(len(joint)), 2))
    return [_kind_of(with_two_exchanged(joint, one, other)) for one, other in pairs]


def _steps(many):
    """Tell, for each kind of joints of so many ribbons, the kinds that exchanges make of it."""
    steps = {}
    for joint in permutations(range(many)):
        kind = _kind_of(joint)
        if kind not in steps:
            steps[kind] = _kinds_behind(joint)
    return steps


def _ways_by_kind(many, most):
    """Tell, for each kind, how many rows of none, of one, .. of most cuts at one place turn a joint so."""
    steps = _steps(many)
    now = {kind: 0 for kind in steps}
    now[(1,) * many] = 1
    ways = {kind: [now[kind]] for kind in steps}
    for _ in range(most):
        now = {kind: sum([now[behind] for behind in steps[kind]]) for kind in steps}
        for kind in steps:
            ways[kind].append(now[kind])
    return ways


def _put_into_one_another(ways, others):
    """Tell how many rows there are of cuts of both, for each number of cuts, put together in all ways."""
    told = []
    for cuts in range(len(ways)):
        parts = [comb(cuts, first) * ways[first] * others[cuts - first] for first in range(cuts + 1)]
        told.append(sum(parts))
    return told


def how_many(frame, effect, cuts):
    """Tell how many rows have the effect and just so many cuts."""
    turned = joints(frame, effect)
    _need_cuts(cuts)
    by_kind = _ways_by_kind(frame[0], cuts)
    ways = [1] + [0] * cuts
    for joint in turned:
        ways = _put_into_one_another(ways, by_kind[_kind_of(joint)])
    return ways[cuts]


def how_many_short(frame, effect):
    """Tell how many rows have the effect and as few cuts as may be."""
    return how_many(frame, effect, fewest(frame, effect))


def how_many_take(frame, cuts):
    """Tell how many effects of the frame take just so many cuts at the fewest."""
    need_frame(frame)
    _need_cuts(cuts)
    many, long = frame
    effects = [1] + [0] * cuts
    for _ in range(long):
        # In a joint a further ribbon stands alone, or, by one exchange more, behind any one of those ahead.
        for ahead in range(1, many):
            effects = [alone + ahead * behind for alone, behind in zip(effects, [0] + effects)]
    return effects[cuts]
