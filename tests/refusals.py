"""How the tests ask for a refusal."""

import unittest


class RefusalCase(unittest.TestCase):
    """A case that can ask for an error of just one class, none above or below it."""

    def refused(self, error, function, *told, **named):
        with self.assertRaises(ValueError) as caught:
            function(*told, **named)
        self.assertIs(caught.exception.__class__, error, (function.__name__, told, named))
