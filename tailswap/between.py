"""What lies on the way to an effect."""

from tailswap.boards import need_place, need_ribbon
from tailswap.joints import exchanges_in, joints, round_with, rounds_of, still_to_turn

# How many joints lie on the way to one round of none, one, .. five ribbons.
ON_THE_WAY = (1, 1, 2, 5, 14, 42)


def _is_joint_between(one, other):
    """Tell whether a joint lies on the way to another one."""
    return exchanges_in(one) + exchanges_in(still_to_turn(one, other)) == exchanges_in(other)


def is_between(frame, one, other):
    """Tell whether the first effect lies on the way to the other one."""
    first = joints(frame, one)
    second = joints(frame, other)
    return all([_is_joint_between(joint, last) for joint, last in zip(first, second)])


def _joints_between(joint):
    """Tell how many joints lie on the way to a joint."""
    number = 1
    for ribbons in rounds_of(joint):
        number = number * ON_THE_WAY[len(ribbons)]
    return number


def how_many_between(frame, effect):
    """Tell how many effects lie on the way to an effect."""
    number = 1
    for joint in joints(frame, effect):
        number = number * _joints_between(joint)
    return number


def _joints_that_tell(joint, one, other):
    """Tell how many joints on the way to a joint tell the other ribbon of the one."""
    ribbons = round_with(joint, one)
    if other not in ribbons:
        return 0
    # On the way rounds keep their order and don't cross: those skipped are on their own, so are the rest, with one and
    # other as if they were a single ribbon; and all that is in other rounds goes whichever way.
    skipped = (ribbons[1:] + [one]).index(other)
    rest = len(ribbons) - 1 - skipped
    elsewhere = _joints_between(joint) // ON_THE_WAY[len(ribbons)]
    return ON_THE_WAY[skipped] * ON_THE_WAY[rest] * elsewhere


def how_many_follow(frame, effect, place, one, other):
    """Tell in how many effects on the way to an effect the joint at the place tells the other ribbon of the one."""
    turned = joints(frame, effect)
    need_place(frame, place)
    need_ribbon(frame, one)
    need_ribbon(frame, other)
    number = _joints_that_tell(turned[place], one, other)
    for joint in turned[:place] + turned[place + 1:]:
        number = number * _joints_between(joint)
    return number
