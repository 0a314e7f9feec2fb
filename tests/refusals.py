"""How the tests ask for a refusal."""

import unittest

from tailswap.errors import NoFrame
from tests.plain import plainly_frame, spoilt

# What is asked about where nothing is to be amiss but what is told.
FRAME = (3, 2)
EFFECT = ((1, 2, 0), (2, 1, 0))
# Each is neither an effect of FRAME nor the joints of one, and just one thing is amiss with it.
NO_EFFECTS = [
    ((0, 1, 2),), ((0, 1, 2),) * 3, (), ((0, 1), (0, 1)), ((0, 1, 2, 3),) * 2, ((0, 1, 1), (0, 1, 2)),
    ((0, 1, 2), (2, 2, 0)), ((0, 1, 3), (0, 1, 2)), ((0, 1, 2), (-1, 0, 1)), ((0, 1, 2), (1, 2, 3)),
    ((0, True, 2), (0, 1, 2)), ((0, 1, 2), (False, 1, 2)), [(0, 1, 2), (0, 1, 2)], ((0, 1, 2), [0, 1, 2]),
    ([0, 1, 2], (0, 1, 2)), ((0, 1, 2), None), ((0, 1, None), (0, 1, 2)), ((0, 1, (2,)), (0, 1, 2)), ("012", "012"),
    {0: (0, 1, 2), 1: (0, 1, 2)}, None, True, 0, "", ((0, 1, 2), {0: 0, 1: 1, 2: 2}), ((0, 1, "2"), (0, 1, 2)),
]
# Each is no board, and just one thing is amiss with it.
NO_BOARDS = [
    (), ("",), ("abcd", "abef", "aac"), ("abc", "abef", "aacd"), ("abcd",) * 6, ("a" * 13,) * 3,
    ("abcD", "abef", "aacd"), ("abcd", "ab f", "aacd"), ("abcd", "abe1", "aacd"), ("abcd", "abe\n", "aacd"),
    ("abcd", None, "aacd"), ("abcd", ("a", "b", "e", "f"), "aacd"), ["abcd", "abef", "aacd"],
    {"abcd": 1}, "abcd", None, True, 1, 0, ("abcd", "ab{f", "aacd"), ("abcd", "ab`f", "aacd"), ("", "", ""),
    (("abcd", "abef", "aacd"),),
]
# None of these is a number of anything that is counted from 0 on.
NO_NUMBERS = [
    -1, 9999999999999, -9999999999999, True, False, None, "", "0", "1", (), (0,), (1,), [1], [], {}, {1: 1}, ((1,),),
]


def boards_of_other_frames(board):
    """Tell boards that have a ribbon or a place more or less than this one, which has more than one of both."""
    shorter = tuple(text[:-1] for text in board)
    longer = tuple(text + "a" for text in board)
    return [board[:-1], board + board[:1], shorter, longer, shorter[:-1], longer + longer[:1], ("a",)]


class RefusalCase(unittest.TestCase):
    """A case that can ask for an error of just one class, none above or below it."""

    def refused(self, error, function, *told, **named):
        with self.assertRaises(ValueError) as caught:
            function(*told, **named)
        self.assertIs(caught.exception.__class__, error, (function.__name__, told, named))

    def refused_without_frame(self, function, *told):
        """Ask with what is no frame, with what else is told and with all of that amiss."""
        for thing in spoilt(FRAME):
            if not plainly_frame(thing):
                self.refused(NoFrame, function, thing, *told)
                self.refused(NoFrame, function, thing, *[None] * len(told))
