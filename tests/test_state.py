"""Promise 1: state."""

import unittest

from faircosts.kinds import answers
from tests.asking import ask

TOP = 4294967295


class State(unittest.TestCase):
    def test_new(self):
        self.assertEqual(answers([0, 1, 16]), [1, 0, 7, 1, 1, 1, 0, 1, 0, 1])
        for scores in (1, 2, 3, 4):
            self.assertEqual(ask(("begin", scores), ("state",))[1], [scores, 1, 1] + [0, 1] * (2 * scores))

    def test_pays_then_group_0_then_group_1(self):
        told = ask(("begin", 3), ("pays", 100, 0), ("chances", 1, 6, [1, 2, 3]), ("chances", 0, 1000, [1000, 999, 0]), ("state",))
        self.assertEqual(told[4], [3, 100, 0, 1, 1, 999, 1000, 0, 1, 1, 6, 1, 3, 1, 2])

    def test_nobody_need_be_there_and_counts_are_not_told(self):
        told = ask(("begin", 1), ("state",), ("count", 0, 0, 5, 6), ("count", 1, 0, 7, 8), ("state",))
        self.assertEqual(told[4], told[1])

    def test_asked_twice(self):
        told = ask(("begin", 2), ("chances", 0, 4, [2, 3]), ("state",), ("state",))
        self.assertEqual(told[2:], [[2, 1, 1, 1, 2, 3, 4, 0, 1, 0, 1]] * 2)

    def test_ahead_of_a_begin(self):
        self.assertEqual(ask(("state",), ("begin", 5), ("state",)), [[-11], [-22], [-11]])

    def test_begin_again_makes_all_new(self):
        told = ask(("begin", 2), ("pays", 3, 4), ("chances", 0, 1, [1, 1]), ("chances", 1, 1, [1, 1]), ("begin", 2), ("state",))
        self.assertEqual(told[5], [2, 1, 1] + [0, 1] * 4)

    def test_begin_again_behind_take(self):
        told = ask(("begin", 1), ("count", 0, 0, 2, 1), ("count", 1, 0, 2, 1), ("take", 0), ("state",), ("begin", 2), ("state",))
        self.assertEqual(told[3:], [[0], [1, 1, 1, 1, 1, 1, 1], [0], [2, 1, 1] + [0, 1] * 4])

    def test_what_is_refused_changes_nothing(self):
        wrong = (("begin", 0), ("begin", 5), ("count", 2, 0, 1, 1), ("count", 0, 0, 100, 0), ("cell", 0, 9), ("pays", 101, 0),
                 ("pays", 0, 101), ("chances", 2, 1, [1]), ("chances", 0, 1, []), ("chances", 1, 5, [6]), ("gains", 2),
                 ("picked", 0), ("picked", 2), ("most", 4), ("most", 0), ("part", 0), ("part", 1), ("costs", 4), ("costs", 1),
                 ("rule", 0, 2), ("rule", 4, 0), ("rule", 0, 0), ("take", 4), ("take", 0), ("meets", 4), ("meets", 0),
                 ("forpart", 2, 0, 1), ("forpart", 0, 0, 1), ("forhits", 0, 2, 1), ("forhits", 1, 0, 1), ("ifpays", 0, 101, 0),
                 ("ifpays", 0, 7, 8))
        told = ask(("begin", 1), ("pays", 3, 2), ("chances", 0, 7, [1]), ("chances", 1, 5, [3]), *wrong, ("state",), ("cell", 0, 0))
        for call, answer in zip(wrong, told[4:]):
            self.assertTrue(len(answer) == 1 and answer[0] < 0, (call, answer))
        self.assertEqual(told[-2:], [[1, 3, 2, 1, 7, 3, 5], [0, 0]])


if __name__ == "__main__":
    unittest.main()
