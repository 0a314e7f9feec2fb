"""Joints: whose bead follows whose, place by place, and the fewest cuts that turn them so."""

from tailswap.errors import NoJoints
from tailswap.rows import does, is_effect, need_effect


def _joint(ahead, line):
    """Tell, for each ribbon at first, whose bead of this place follows its bead of the place ahead."""
    joint = list(line)
    for one, other in zip(ahead, line):
        joint[one] = other
    return tuple(joint)


def joints(frame, effect):
    """Tell the joints of an effect, place by place."""
    need_effect(frame, effect)
    # Ahead of place 0 each ribbon stands for itself.
    ahead = tuple(range(frame[0]))
    told = []
    for line in effect:
        told.append(_joint(ahead, line))
        ahead = line
    return tuple(told)


def with_joints(frame, joints):
    """Tell the effect that has these joints."""
    # Whichever joints there are have the form of an effect.
    if not is_effect(frame, joints):
        raise NoJoints()
    line = tuple(range(frame[0]))
    effect = []
    for joint in joints:
        line = tuple([joint[ribbon] for ribbon in line])
        effect.append(line)
    return tuple(effect)


def round_with(joint, ribbon):
    """Tell the ribbons of a joint's round, in its order, from this one on."""
    told = [ribbon]
    while joint[told[-1]] != ribbon:
        told.append(joint[told[-1]])
    return told


def rounds_of(joint):
    """Tell the rounds of a joint, each from its least ribbon on, by rising least ribbons."""
    told = [round_with(joint, ribbon) for ribbon in range(len(joint))]
    return [ribbons for ribbons in told if ribbons[0] == min(ribbons)]


def exchanges_in(joint):
    """Tell by how few exchanges of two a joint is turned."""
    return len(joint) - len(rounds_of(joint))


def fewest(frame, effect):
    """Tell the least number of cuts of a row that has the effect."""
    return sum([exchanges_in(joint) for joint in joints(frame, effect)])


def still_to_turn(now, line):
    """Tell, for each ribbon, on which one the bead lies now that shall lie on it in the line."""
    return tuple([now.index(whose) for whose in line])


def _least_cuts(place, ahead, line):
    """Tell the least row of as few cuts at a place as lead from the line ahead of it to its own."""
    now = list(ahead)
    cuts = []
    while tuple(now) != line:
        # Just two ribbons of one round leave one exchange less to be done, so the first such round has the least cut.
        wider = [sorted(ribbons) for ribbons in rounds_of(still_to_turn(now, line)) if len(ribbons) > 1]
        one, other = wider[0][:2]
        now[one], now[other] = now[other], now[one]
        cuts.append((place, one, other))
    return cuts


def shortest(frame, effect):
    """Tell the least of the rows that have the effect and as few cuts as may be."""
    need_effect(frame, effect)
    ahead = tuple(range(frame[0]))
    row = []
    # A cut turns the joint at its place alone, so the least places can all be done first.
    for place, line in enumerate(effect):
        row.extend(_least_cuts(place, ahead, line))
        ahead = line
    return tuple(row)


def is_short(frame, row):
    """Tell whether a row has as few cuts as its effect takes."""
    takes = fewest(frame, does(frame, row))
    return len(row) == takes
