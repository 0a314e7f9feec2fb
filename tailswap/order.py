"""How cuts change their order."""

from tailswap.boards import is_whole_from, need_frame
from tailswap.errors import NoAt
from tailswap.rows import does, need_row


def _called(cut, names):
    """Tell a cut with its two ribbons called as the names tell them."""
    place, one, other = cut
    ribbons = sorted([names[one], names[other]])
    return (place, ribbons[0], ribbons[1])


def _names_by(many, cut):
    """Tell, for each of so many ribbons, how a cut calls it."""
    names = list(range(many))
    _, one, other = cut
    names[one], names[other] = other, one
    return names


def _two_exchanged(many, first, second):
    """Tell two cuts that stand one behind the other, exchanged."""
    if first[0] < second[0]:
        return (_called(second, _names_by(many, first)), first)
    return (second, _called(first, _names_by(many, second)))


def exchanged_at(many, row, at):
    """Tell a row of so many ribbons in which the cut at a number and the next one, which is there, are exchanged."""
    return row[:at] + _two_exchanged(many, row[at], row[at + 1]) + row[at + 2:]


def exchanged(frame, row, at):
    """Tell the row in which the cut at a number and the next one are exchanged."""
    need_frame(frame)
    need_row(frame, row)
    if not is_whole_from(at, 0, len(row) - 2):
        raise NoAt()
    return exchanged_at(frame[0], row, at)


def _behind_those_at(many, cuts, place):
    """Tell the cuts at greater places as they are called once those at this place went ahead of them."""
    names = list(range(many))
    told = []
    # From the last one on, since a cut is called anew by each one that goes ahead of it, the nearest one first.
    for cut in cuts[::-1]:
        at, one, other = cut
        if at == place:
            names[one], names[other] = names[other], names[one]
        else:
            told.append(_called(cut, names))
    return told[::-1]


def rising(frame, row):
    """Tell the row of rising places to which a row comes by exchanges."""
    need_frame(frame)
    need_row(frame, row)
    many, long = frame
    cuts = list(row)
    told = []
    for place in range(long):
        # What goes ahead of greater places stays as it is.
        told.extend([cut for cut in cuts if cut[0] == place])
        cuts = _behind_those_at(many, cuts, place)
    return tuple(told)


def parts(frame, one, other):
    """Tell the least (place, ribbon) at which the effects of two rows are unlike, None where they are one."""
    first = does(frame, one)
    second = does(frame, other)
    many, long = frame
    for place in range(long):
        for ribbon in range(many):
            if first[place][ribbon] != second[place][ribbon]:
                return (place, ribbon)
    return None
