"""What tests of refusals share."""

import unittest

from tests.asking import ask, ask_last, counts
from tests.crowds import CROSS

WHOLE = [(1, 1), (2, 2)]
# Nobody who turned out so; nobody who turned out not so; nobody.
LACKING = ([(0, 1), (0, 2)], [(1, 0), (2, 0)], [(0, 0), (0, 0)])
SEEN = (("state",), ("cell", 0, 0), ("cell", 0, 1), ("cell", 1, 0), ("cell", 1, 1), ("gains", 0), ("gains", 1))


class Refusing(unittest.TestCase):
    def check_lacking(self, *calls):
        """Somebody who is lacking in some group, be it the other one, refuses all the calls, and they change nothing."""
        for cells in LACKING:
            for first, second in ((cells, WHOLE), (WHOLE, cells)):
                self.assertEqual(ask_last(first, second, (1, 1), *calls), [[-33]] * len(calls))
                self.check_nothing_changes(first, second, *calls)

    def check_nothing_changes(self, first, second, *calls):
        told = counts(first, second) + [("pays", 3, 2), ("chances", 0, 7, [1, 2]), ("chances", 1, 5, [3, 4])]
        self.assertEqual(ask(*told, *calls, *SEEN)[-7:], ask(*told, *SEEN)[-7:])
