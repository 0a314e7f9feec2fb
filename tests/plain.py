"""What the tests measure the program by: rows played out bead by bead, and things of all kinds.

Nothing here is taken from the package, so that a fault of it can't hide itself.
"""

import itertools
import random
import re

FRAMES = [(many, long) for many in range(1, 6) for long in range(1, 13)]

DEEP = "a"
for _ in range(8):
    DEEP = [DEEP]
DEEP_TUPLE = 0
for _ in range(8):
    DEEP_TUPLE = (DEEP_TUPLE,)

THINGS = [
    True, False, None,
    -9999999999999, -2, -1, 0, 1, 2, 3, 4, 5, 6, 11, 12, 13, 60, 9999999999999,
    "", "a", "z", "ab", "abc", "A", "aB", "0", "1", " ", "a b", "\n", "a\n", "\na", "`", "{", "a" * 12, "a" * 13,
    "a" * 600, "()", "None",
    (), [], {}, (0,), (1,), [0], (0, 1), (1, 0), [0, 1], (1, 1), (True, 1), (1, True), [1, 1], (0, 0, 1), [0, 0, 1],
    (False, 0, 1), ((0, 0, 1),), [(0, 0, 1)], ("a",), ["a"], ("a", "b"), {"a": 1}, {0: 1, 1: 0}, {0: "a"}, ((),), [[]],
    (None,), (None, None), (1, 2, 3), ((0, 1), (1, 0)), DEEP, DEEP_TUPLE, {"a": {"b": {"c": [1, (2, None)]}}},
    tuple(range(3000)), ["a"] * 3000,
]


def spoilt(thing, things=THINGS):
    """Yield thing with any part of it otherwise, left out, twice, put in, or a list for a tuple, at any depth."""
    yield from things
    if not isinstance(thing, tuple):
        return
    yield list(thing)
    yield {at: part for at, part in enumerate(thing)}
    yield thing + thing[:1]
    for at, part in enumerate(thing):
        ahead, behind = thing[:at], thing[at + 1:]
        yield ahead + behind
        yield ahead + (part, part) + behind
        for other in spoilt(part, things):
            yield ahead + (other,) + behind
        for other in (0, True, None, "a", (), part):
            yield ahead + (other, part) + behind


# A repr tells truths from numbers, and lists from tuples, which == does not.
FRAME_REPRS = {repr(frame) for frame in FRAMES}


def plainly_frame(thing):
    return repr(thing) in FRAME_REPRS


def plainly_board(thing):
    if type(thing) is not tuple or len(thing) not in (1, 2, 3, 4, 5):
        return False
    if any(type(text) is not str or re.fullmatch("[a-z]{1,12}", text) is None for text in thing):
        return False
    return len({len(text) for text in thing}) == 1


def cuts_of(frame):
    many, long = frame
    return [(place, one, other) for place in range(long) for one, other in itertools.combinations(range(many), 2)]


def plainly_row(frame, thing):
    known = {repr(cut) for cut in cuts_of(frame)}
    return type(thing) is tuple and all(repr(cut) in known for cut in thing)


def plainly_effect(frame, thing):
    many, long = frame
    known = {repr(line) for line in itertools.permutations(range(many))}
    return type(thing) is tuple and len(thing) == long and all(repr(line) in known for line in thing)


def played(frame, row, times=1):
    """For each (ribbon, place) tell the ribbon whose bead of this place lies there behind the row."""
    many, long = frame
    beads = {(ribbon, place): ribbon for ribbon in range(many) for place in range(long)}
    for _ in range(times):
        for place, one, other in row:
            for at in range(place, long):
                kept = beads[one, at]
                beads[one, at] = beads[other, at]
                beads[other, at] = kept
    return beads


def plain_frame(board):
    return (len(board), len(board[0]))


def plain_behind(board, row, times=1):
    many, long = frame = plain_frame(board)
    beads = played(frame, row, times)
    return tuple("".join(board[beads[ribbon, place]][place] for place in range(long)) for ribbon in range(many))


def plain_effect(frame, row):
    many, long = frame
    beads = played(frame, row)
    return tuple(tuple(beads[ribbon, place] for ribbon in range(many)) for place in range(long))


def plain_round(frame, row):
    first = played(frame, ())
    return next(times for times in range(1, 62) if played(frame, row, times) == first)


def plain_round_from(board, row):
    return next(times for times in range(1, 62) if plain_behind(board, row, times) == board)


def some_rows(frame, lengths=(0, 1, 2, 3, 7, 60), seed=5):
    """Tell rows of the frame of these lengths, the same ones whenever asked."""
    chooser = random.Random(f"{frame} {seed}")
    cuts = cuts_of(frame)
    rows = []
    for length in lengths:
        if cuts or length == 0:
            rows.append(tuple(chooser.choice(cuts) for _ in range(length)))
    return rows


def unlike_board(frame):
    """Tell a board of the frame where no letter stands twice at one place."""
    many, long = frame
    letters = "abcdefghijklmnopqrstuvwxyz"
    return tuple("".join(letters[(5 * place + ribbon) % 26] for place in range(long)) for ribbon in range(many))


def some_boards(frame, seed=5):
    """Tell boards of the frame with unlike letters, with few letters, and with just one."""
    many, long = frame
    chooser = random.Random(f"{frame} {seed}")
    like = tuple("".join(chooser.choice("xyz") for _ in range(long)) for _ in range(many))
    return [unlike_board(frame), like, ("q" * long,) * many]
