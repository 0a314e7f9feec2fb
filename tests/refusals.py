"""How the tests ask for a refusal."""

import unittest

from tailswap.errors import NoFrame
from tests.plain import plainly_frame, spoilt

# What is asked about where nothing is to be amiss but what is told.
FRAME = (3, 2)
EFFECT = ((1, 2, 0), (2, 1, 0))
# Each is neither an effect of FRAME nor the joints of one, and just one thing is amiss with it.
NO_EFFECTS = [
    ((0, 1, 2),), ((0, 1, 2),) * 3, (), ((0, 1), (0, 1)), ((0, 1, 2, 3),) * 2, ((0, 1, 1), (0, 1, 2)),
    ((0, 1, 2), (2, 2, 0)), ((0, 1, 3), (0, 1, 2)), ((0, 1, 2), (-1, 0, 1)), ((0, 1, 2), (1, 2, 3)),
    ((0, True, 2), (0, 1, 2)), ((0, 1, 2), (False, 1, 2)), [(0, 1, 2), (0, 1, 2)], ((0, 1, 2), [0, 1, 2]),
    ([0, 1, 2], (0, 1, 2)), ((0, 1, 2), None), ((0, 1, None), (0, 1, 2)), ((0, 1, (2,)), (0, 1, 2)), ("012", "012"),
    {0: (0, 1, 2), 1: (0, 1, 2)}, None, True, 0, "", ((0, 1, 2), {0: 0, 1: 1, 2: 2}), ((0, 1, "2"), (0, 1, 2)),
]
# None of these is a number of anything that is counted from 0 on.
NO_NUMBERS = [
    -1, 9999999999999, -9999999999999, True, False, None, "", "0", "1", (), (0,), (1,), [1], [], {}, {1: 1}, ((1,),),
]


class RefusalCase(unittest.TestCase):
    """A case that can ask for an error of just one class, none above or below it."""

    def refused(self, error, function, *told, **named):
        with self.assertRaises(ValueError) as caught:
            function(*told, **named)
        self.assertIs(caught.exception.__class__, error, (function.__name__, told, named))

    def refused_without_frame(self, function, *told):
        """Ask with what is no frame, with what else is told and with all of that amiss."""
        for thing in spoilt(FRAME):
            if not plainly_frame(thing):
                self.refused(NoFrame, function, thing, *told)
                self.refused(NoFrame, function, thing, *[None] * len(told))
