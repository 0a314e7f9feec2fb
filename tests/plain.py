"""What the tests measure the program by: rows played out bead by bead, and things of all kinds.

Nothing here is taken from the package, so that a fault of it can't hide itself.
"""

import functools
import heapq
import itertools
import random
import re

FRAMES = [(many, long) for many in range(1, 6) for long in range(1, 13)]

DEEP = "a"
for _ in range(8):
    DEEP = [DEEP]
DEEP_TUPLE = 0
for _ in range(8):
    DEEP_TUPLE = (DEEP_TUPLE,)

THINGS = [
    True, False, None,
    -9999999999999, -2, -1, 0, 1, 2, 3, 4, 5, 6, 11, 12, 13, 60, 9999999999999,
    "", "a", "z", "ab", "abc", "A", "aB", "0", "1", " ", "a b", "\n", "a\n", "\na", "`", "{", "a" * 12, "a" * 13,
    "a" * 600, "()", "None",
    (), [], {}, (0,), (1,), [0], (0, 1), (1, 0), [0, 1], (1, 1), (True, 1), (1, True), [1, 1], (0, 0, 1), [0, 0, 1],
    (False, 0, 1), ((0, 0, 1),), [(0, 0, 1)], ("a",), ["a"], ("a", "b"), {"a": 1}, {0: 1, 1: 0}, {0: "a"}, ((),), [[]],
    (None,), (None, None), (1, 2, 3), ((0, 1), (1, 0)), DEEP, DEEP_TUPLE, {"a": {"b": {"c": [1, (2, None)]}}},
    tuple(range(3000)), ["a"] * 3000,
]


def spoilt(thing, things=THINGS):
    """Yield thing with any part of it otherwise, left out, twice, put in, or a list for a tuple, at any depth."""
    yield from things
    if not isinstance(thing, tuple):
        return
    yield list(thing)
    yield {at: part for at, part in enumerate(thing)}
    yield thing + thing[:1]
    for at, part in enumerate(thing):
        ahead, behind = thing[:at], thing[at + 1:]
        yield ahead + behind
        yield ahead + (part, part) + behind
        for other in spoilt(part, things):
            yield ahead + (other,) + behind
        for other in (0, True, None, "a", (), part):
            yield ahead + (other, part) + behind


# A repr tells truths from numbers, and lists from tuples, which == does not.
FRAME_REPRS = {repr(frame) for frame in FRAMES}


def plainly_frame(thing):
    return repr(thing) in FRAME_REPRS


def plainly_board(thing):
    if type(thing) is not tuple or len(thing) not in (1, 2, 3, 4, 5):
        return False
    if any(type(text) is not str or re.fullmatch("[a-z]{1,12}", text) is None for text in thing):
        return False
    return len({len(text) for text in thing}) == 1


def cuts_of(frame):
    many, long = frame
    return [(place, one, other) for place in range(long) for one, other in itertools.combinations(range(many), 2)]


def plainly_row(frame, thing):
    known = {repr(cut) for cut in cuts_of(frame)}
    return type(thing) is tuple and all(repr(cut) in known for cut in thing)


def plainly_effect(frame, thing):
    many, long = frame
    known = {repr(line) for line in itertools.permutations(range(many))}
    return type(thing) is tuple and len(thing) == long and all(repr(line) in known for line in thing)


def played(frame, row, times=1):
    """For each (ribbon, place) tell the ribbon whose bead of this place lies there behind the row."""
    many, long = frame
    beads = {(ribbon, place): ribbon for ribbon in range(many) for place in range(long)}
    for _ in range(times):
        for place, one, other in row:
            for at in range(place, long):
                kept = beads[one, at]
                beads[one, at] = beads[other, at]
                beads[other, at] = kept
    return beads


def plain_frame(board):
    return (len(board), len(board[0]))


def plain_behind(board, row, times=1):
    many, long = frame = plain_frame(board)
    beads = played(frame, row, times)
    return tuple("".join(board[beads[ribbon, place]][place] for place in range(long)) for ribbon in range(many))


def plain_effect(frame, row):
    many, long = frame
    beads = played(frame, row)
    return tuple(tuple(beads[ribbon, place] for ribbon in range(many)) for place in range(long))


def plain_round(frame, row):
    first = played(frame, ())
    return next(times for times in range(1, 62) if played(frame, row, times) == first)


def plain_round_from(board, row):
    return next(times for times in range(1, 62) if plain_behind(board, row, times) == board)


def some_rows(frame, lengths=(0, 1, 2, 3, 7, 60), seed=5):
    """Tell rows of the frame of these lengths, the same ones whenever asked."""
    chooser = random.Random(f"{frame} {seed}")
    cuts = cuts_of(frame)
    rows = []
    for length in lengths:
        if cuts or length == 0:
            rows.append(tuple(chooser.choice(cuts) for _ in range(length)))
    return rows


def unlike_board(frame):
    """Tell a board of the frame where no letter stands twice at one place."""
    many, long = frame
    letters = "abcdefghijklmnopqrstuvwxyz"
    return tuple("".join(letters[(5 * place + ribbon) % 26] for place in range(long)) for ribbon in range(many))


def some_boards(frame, seed=5):
    """Tell boards of the frame with unlike letters, with few letters, and with just one."""
    many, long = frame
    chooser = random.Random(f"{frame} {seed}")
    like = tuple("".join(chooser.choice("xyz") for _ in range(long)) for _ in range(many))
    return [unlike_board(frame), like, ("q" * long,) * many]


def plain_joints(effect):
    """For each place tell, for each ribbon at first, whose bead follows its bead of the place ahead, bead by bead."""
    told = []
    for place, line in enumerate(effect):
        lies_ahead = {whose: ribbon for ribbon, whose in enumerate(effect[place - 1])}
        if place == 0:
            lies_ahead = {ribbon: ribbon for ribbon in range(len(line))}
        told.append(tuple(line[lies_ahead[ribbon]] for ribbon in range(len(line))))
    return tuple(told)


def plain_rounds(joint):
    """Tell the rounds of a joint as sets of ribbons."""
    rounds = {frozenset([ribbon]) for ribbon in range(len(joint))}
    for one, other in enumerate(joint):
        met = [ribbons for ribbons in rounds if one in ribbons or other in ribbons]
        rounds = {ribbons for ribbons in rounds if ribbons not in met} | {frozenset().union(*met)}
    return rounds


def plain_fewest(effect):
    return sum(len(joint) - len(plain_rounds(joint)) for joint in plain_joints(effect))


def cut_behind(effect, cut):
    """Tell the effect of a row of this effect and one cut more."""
    place, one, other = cut
    lines = [list(line) for line in effect]
    for line in lines[place:]:
        line[one], line[other] = line[other], line[one]
    return tuple(tuple(line) for line in lines)


def layers(frame, most):
    """For each number of cuts up to most tell {effect: (how many rows of so many cuts have it, the least of these)}."""
    told = [{plain_effect(frame, ()): (1, ())}]
    for _ in range(most):
        layer = {}
        for effect, (many, least) in told[-1].items():
            for cut in cuts_of(frame):
                behind = cut_behind(effect, cut)
                so_far, row = layer.get(behind, (0, least + (cut,)))
                # Rows of one length with one effect: the least of them has the least row ahead of its last cut.
                layer[behind] = (so_far + many, min(row, least + (cut,)))
        told.append(layer)
    return told


def rows_of(frame, length):
    """Tell all rows of so many cuts."""
    return list(itertools.product(cuts_of(frame), repeat=length))


def effects_of(frame):
    """Tell all effects of a frame."""
    many, long = frame
    return list(itertools.product(itertools.permutations(range(many)), repeat=long))


def some_effects(frame, number=4, seed=5):
    """Tell effects of the frame, the one that does nothing and others, the same ones whenever asked."""
    many, long = frame
    chooser = random.Random(f"{frame} effects {seed}")
    lines = list(itertools.permutations(range(many)))
    return [plain_effect(frame, ())] + [tuple(chooser.choice(lines) for _ in range(long)) for _ in range(number)]


def turning(many, *rounds):
    """Tell the joint of these rounds, each ribbon followed by the next one, all other ribbons alone."""
    joint = list(range(many))
    for ribbons in rounds:
        for one, other in zip(ribbons, ribbons[1:] + ribbons[:1]):
            joint[one] = other
    return tuple(joint)


def effect_of_joints(*told):
    """Tell the effect of joints, by the ribbon each bead is followed by."""
    line = tuple(range(len(told[0])))
    effect = []
    for joint in told:
        line = tuple(joint[whose] for whose in line)
        effect.append(line)
    return tuple(effect)


def as_cut_calls(cut, ribbon):
    """Tell how a cut calls a ribbon."""
    _, one, other = cut
    return {one: other, other: one}.get(ribbon, ribbon)


def plain_exchanged(row, at):
    """Tell the row exchanged at a number, by the point's words."""
    first, second = row[at:at + 2]
    if first[0] < second[0]:
        ribbons = sorted(as_cut_calls(first, ribbon) for ribbon in second[1:])
        first, second = (second[0], *ribbons), first
    else:
        ribbons = sorted(as_cut_calls(second, ribbon) for ribbon in first[1:])
        first, second = second, (first[0], *ribbons)
    return row[:at] + (first, second) + row[at + 2:]


def whole(thing, least, most):
    """Tell whether thing is a number from least to most, which a truth is not."""
    return type(thing) is int and least <= thing <= most


def columns(board):
    """For each place tell the letters there, ribbon by ribbon."""
    return list(zip(*board))


def board_cut(board, cut):
    """Tell the board behind one cut, bead by bead."""
    place, one, other = cut
    texts = [list(text) for text in board]
    for at in range(place, len(board[0])):
        kept = texts[one][at]
        texts[one][at] = texts[other][at]
        texts[other][at] = kept
    return tuple("".join(text) for text in texts)


def boards_by_coins(board, prices):
    """For each board to which cuts at places with a price lead tell the least coins, the least coins first."""
    cuts = [(prices[cut[0]], cut) for cut in cuts_of(plain_frame(board)) if prices[cut[0]] is not None]
    told = {}
    waiting = [(0, board)]
    while waiting:
        coins, now = heapq.heappop(waiting)
        if now not in told:
            told[now] = coins
            for price, cut in cuts:
                heapq.heappush(waiting, (coins + price, board_cut(now, cut)))
    return told


def boards_by_cuts(board):
    """For each board to which cuts lead tell the fewest."""
    return boards_by_coins(board, (1,) * len(board[0]))


def boards_of(frame, letters):
    """Tell all boards of a frame with these letters alone."""
    many, long = frame
    texts = ["".join(text) for text in itertools.product(letters, repeat=long)]
    return list(itertools.product(texts, repeat=many))


@functools.cache
def joint_coins(joint):
    return len(joint) - len(plain_rounds(joint))


def plain_coins(board, texts, prices):
    """Tell the least coins to these texts (None: whatever comes), None where they can't be come to, by lines."""
    lines = list(itertools.permutations(range(len(board))))
    now = {lines[0]: 0}
    for place, price in enumerate(prices):
        here = columns(board)[place]
        further = {}
        for line in lines:
            if any(text and text[place] != here[whose] for text, whose in zip(texts, line)):
                continue
            coins = []
            for ahead, paid in now.items():
                turned = joint_coins(tuple(line[ahead.index(whose)] for whose in lines[0]))
                if turned == 0 or price is not None:
                    coins.append(paid + turned * (price or 0))
            if coins:
                further[line] = min(coins)
        now = further
    return min(now.values(), default=None)


def mixed_board(frame, letters, seed=5):
    """Tell a board of the frame of some of these letters, and another one with the same letters at each place."""
    many, long = frame
    chooser = random.Random(f"{frame} {letters} {seed}")
    there = [[chooser.choice(letters) for _ in range(many)] for _ in range(long)]
    others = [chooser.sample(place, many) for place in there]
    return tuple(tuple("".join(place[ribbon] for place in both) for ribbon in range(many)) for both in (there, others))
