"""By which exchanges two rows of one effect, each as short as may be, come to one another."""

from tailswap.boards import is_told, is_whole_from, need_frame
from tailswap.errors import NotShort
from tailswap.joints import is_short
from tailswap.order import exchanged_at, parts
from tailswap.rows import does, need_row


def _need_short_rows(frame, one, other):
    """Refuse what is no row, or is longer than its effect takes."""
    need_frame(frame)
    need_row(frame, one)
    need_row(frame, other)
    if not is_short(frame, one) or not is_short(frame, other):
        raise NotShort()


def _numbers_to_rise(row):
    """Tell by which numbers a row comes to rising places, the least place first."""
    places = [cut[0] for cut in row]
    numbers = []
    for end in range(1, len(places)):
        at = end
        while at > 0 and places[at - 1] > places[at]:
            places[at - 1], places[at] = places[at], places[at - 1]
            at -= 1
            numbers.append(at)
    return numbers


def _exchanged_by(many, row, numbers):
    """Tell the row to which a row comes by these numbers, each of a cut that has a next one."""
    for at in numbers:
        row = exchanged_at(many, row, at)
    return row


def _numbers_at_one_place(many, cuts, wanted):
    """Tell by which numbers the fewest cuts of a joint at one place come to be other ones of it, the wanted ones."""
    numbers = {cuts: ()}
    edge = [cuts]
    # So few cuts of one effect always come to one another by exchanges, so the wanted ones are met at last.
    while wanted not in numbers:
        further = []
        for now in edge:
            for at in range(len(now) - 1):
                behind = exchanged_at(many, now, at)
                if behind not in numbers:
                    numbers[behind] = numbers[now] + (at,)
                    further.append(behind)
        edge = further
    return numbers[wanted]


def _numbers_place_by_place(frame, one, other):
    """Tell by which numbers a row of rising places comes to be another one of as many cuts at each place."""
    many, long = frame
    numbers = []
    for place in range(long):
        cuts = tuple([cut for cut in one if cut[0] == place])
        wanted = tuple([cut for cut in other if cut[0] == place])
        ahead = len([cut for cut in one if cut[0] < place])
        numbers.extend([ahead + at for at in _numbers_at_one_place(many, cuts, wanted)])
    return numbers


def _numbers_from_to(frame, one, other):
    """Tell by which numbers the first of two rows, short and of one effect, comes to be the other one."""
    if one == other:
        return ()
    up = _numbers_to_rise(one)
    down = _numbers_to_rise(other)
    first = _exchanged_by(frame[0], one, up)
    last = _exchanged_by(frame[0], other, down)
    # Two cuts of unlike places that are exchanged twice are as they were, so what rose falls by its numbers backwards.
    return tuple(up + _numbers_place_by_place(frame, first, last) + down[::-1])


def leading(frame, one, other):
    """Tell by which numbers the first of two short rows comes to be the other one, or where their effects part."""
    _need_short_rows(frame, one, other)
    unlike = parts(frame, one, other)
    if unlike is None:
        return ("numbers", _numbers_from_to(frame, one, other))
    return ("parts", unlike[0], unlike[1])


def _do_lead(many, one, other, numbers):
    """Tell whether numbers, whatever they are, lead a row to another one."""
    if not isinstance(numbers, tuple):
        return False
    if not all([is_whole_from(at, 0, len(one) - 2) for at in numbers]):
        return False
    return _exchanged_by(many, one, numbers) == other


def _are_unlike_at(frame, one, other, place, ribbon):
    """Tell whether the effects of two rows are unlike at a place and a ribbon, whatever these are."""
    many, long = frame
    if not is_whole_from(place, 0, long - 1) or not is_whole_from(ribbon, 0, many - 1):
        return False
    return does(frame, one)[place][ribbon] != does(frame, other)[place][ribbon]


def shows_leading(frame, one, other, thing):
    """Tell whether thing shows how one short row comes to be the other one, or that it doesn't."""
    _need_short_rows(frame, one, other)
    if is_told(thing, "numbers", 2):
        return _do_lead(frame[0], one, other, thing[1])
    if is_told(thing, "parts", 3):
        return _are_unlike_at(frame, one, other, thing[1], thing[2])
    return False
