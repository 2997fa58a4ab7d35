"""Promise 1: begin, count, cell, chances."""

import unittest

from tests.asking import ask

TOP = 4294967295


def ask_begun(scores, *calls):
    return ask(("begin", scores), *calls)[1:]


class Begin(unittest.TestCase):
    def test_one_to_four_scores(self):
        for scores in (1, 2, 3, 4):
            told = ask_begun(scores, ("cell", 0, scores - 1), ("cell", 0, scores))
            self.assertEqual(told, [[0, 0], [-2]], scores)
            self.assertEqual(ask(("begin", scores)), [[0]])

    def test_other_numbers_of_scores_are_refused(self):
        for scores in (0, 5, 255, TOP):
            self.assertEqual(ask(("begin", scores)), [[-22]], scores)

    def test_nobody_is_there_and_all_chances_are_zero(self):
        told = ask_begun(2, ("cell", 0, 0), ("cell", 0, 1), ("cell", 1, 0), ("cell", 1, 1), ("picked", 0),
                         ("count", 0, 0, 3, 4), ("count", 0, 1, 9, 2), ("picked", 0), ("gains", 0),
                         ("count", 1, 0, 3, 4), ("count", 1, 1, 9, 2), ("picked", 1), ("gains", 1))
        self.assertEqual(told, [[0, 0]] * 4 + [[-33], [7], [11], [0, 0, 1], [0, 0, 1], [7], [11], [0, 0, 1], [0, 0, 1]])

    def test_both_pays_are_one(self):
        told = ask_begun(1, ("chances", 0, 1, [1]), ("count", 0, 0, 5, 0), ("gains", 0), ("count", 0, 0, 0, 5), ("gains", 0))
        self.assertEqual([told[2], told[4]], [[0, 5, 1], [0, -5, 1]])

    def test_begin_again_makes_all_new(self):
        told = ask_begun(2, ("count", 0, 0, 5, 6), ("count", 1, 1, 7, 8), ("pays", 3, 0), ("chances", 0, 1, [1, 1]),
                         ("chances", 1, 1, [1, 1]), ("begin", 3), ("cell", 0, 0), ("cell", 1, 1), ("cell", 1, 2),
                         ("count", 0, 0, 5, 6), ("gains", 0), ("picked", 0), ("chances", 0, 1, [1, 0, 0]), ("gains", 0),
                         ("count", 1, 1, 7, 8), ("picked", 1))
        self.assertEqual(told[5:], [[0], [0, 0], [0, 0], [0, 0], [11], [0, 0, 1], [0, 0, 1], [0], [0, -1, 1],
                                    [15], [0, 0, 1]])

    def test_begin_again_with_fewer_scores(self):
        told = ask_begun(4, ("count", 1, 3, 5, 6), ("begin", 1), ("cell", 1, 3), ("cell", 1, 1), ("cell", 1, 0))
        self.assertEqual(told, [[11], [0], [-2], [-2], [0, 0]])

    def test_a_refused_begin_changes_nothing(self):
        told = ask_begun(2, ("count", 0, 1, 5, 6), ("pays", 3, 2), ("chances", 0, 2, [0, 1]), ("begin", 5), ("begin", 0),
                         ("cell", 0, 1), ("gains", 0), ("picked", 0), ("cell", 0, 2))
        self.assertEqual(told[3:], [[-22], [-22], [5, 6], [0, 3, 2], [0, 1, 2], [-2]])


class Count(unittest.TestCase):
    def test_how_many_that_are(self):
        told = ask_begun(2, ("count", 0, 0, 3, 4), ("count", 1, 1, 0, 99), ("count", 1, 0, 99, 0), ("count", 0, 1, 99, 99),
                         ("cell", 0, 0), ("cell", 1, 1), ("cell", 1, 0), ("cell", 0, 1))
        self.assertEqual(told, [[7], [99], [99], [198], [3, 4], [0, 99], [99, 0], [99, 99]])

    def test_counted_anew_not_added(self):
        told = ask_begun(1, ("count", 0, 0, 3, 4), ("count", 0, 0, 1, 0), ("cell", 0, 0), ("count", 0, 0, 0, 0), ("cell", 0, 0))
        self.assertEqual(told, [[7], [1], [1, 0], [0], [0, 0]])

    def test_no_such_group_or_score(self):
        for group, score in ((2, 0), (TOP, 0), (0, 3), (1, 3), (0, TOP), (2, 3)):
            self.assertEqual(ask_begun(3, ("count", group, score, 1, 1)), [[-2]])

    def test_above_ninety_nine(self):
        for so, others in ((100, 0), (0, 100), (100, 100), (TOP, 1), (1, TOP)):
            told = ask_begun(1, ("count", 1, 0, 5, 6), ("count", 1, 0, so, others), ("cell", 1, 0))
            self.assertEqual(told, [[11], [-22], [5, 6]])

    def test_no_such_score_is_answered_ahead_of_too_many(self):
        told = ask_begun(1, ("count", 2, 0, 100, 100), ("count", 0, 1, 100, 0), ("count", 0, 1, 0, 100), ("cell", 0, 0))
        self.assertEqual(told, [[-2], [-2], [-2], [0, 0]])


class Cell(unittest.TestCase):
    def test_no_such_group_or_score(self):
        for group, score in ((2, 0), (TOP, 0), (0, 2), (1, 2), (1, TOP), (2, 2)):
            self.assertEqual(ask_begun(2, ("cell", group, score)), [[-2]])

    def test_each_cell_is_its_own(self):
        calls = [("count", group, score, 10 * group + score, 40 + score) for group in (0, 1) for score in range(4)]
        cells = [("cell", group, score) for group in (0, 1) for score in range(4)]
        told = ask_begun(4, *calls, *cells)[8:]
        self.assertEqual(told, [[10 * group + score, 40 + score] for group in (0, 1) for score in range(4)])


class Chances(unittest.TestCase):
    # With 1, 10, 20, 99 who turned out so the gain tells each chance.
    CROWD = tuple(("count", group, score, so, 0) for group in (0, 1) for score, so in enumerate((1, 10, 20, 99)))

    def gains(self, *calls):
        return ask_begun(4, *self.CROWD, *calls, ("gains", 0), ("gains", 1))[8:]

    def test_each_by_b(self):
        self.assertEqual(self.gains(("chances", 1, 100, [1, 20, 50, 100])), [[0], [0, 0, 1], [0, 11101, 100]])
        self.assertEqual(self.gains(("chances", 0, 3, [3, 2, 1, 0])), [[0], [0, 43, 3], [0, 0, 1]])

    def test_the_edges_of_b(self):
        self.assertEqual(self.gains(("chances", 0, 1, [0, 0, 1, 0])), [[0], [0, 20, 1], [0, 0, 1]])
        self.assertEqual(self.gains(("chances", 0, 1000, [1000, 1, 0, 0])), [[0], [0, 101, 100], [0, 0, 1]])

    def test_told_anew(self):
        told = self.gains(("chances", 0, 1, [1, 1, 1, 1]), ("chances", 0, 2, [0, 1, 0, 0]))
        self.assertEqual(told, [[0], [0], [0, 5, 1], [0, 0, 1]])

    def test_what_is_not_right_changes_nothing(self):
        wrong = ((0, [0, 0, 0, 0]), (1001, [0, 0, 0, 0]), (TOP, [1, 1, 1, 1]), (5, [6, 0, 0, 0]), (5, [0, 0, 0, 6]),
                 (5, [0, 0, 0, TOP]), (5, [1, 1, 1]), (5, [1, 1, 1, 1, 1]), (5, []), (5, [0] * 255), (0, []))
        for lower, row in wrong:
            told = self.gains(("chances", 0, 2, [1, 0, 0, 0]), ("chances", 0, lower, row))
            self.assertEqual(told, [[0], [-22], [0, 1, 2], [0, 0, 1]], (lower, row))

    def test_no_such_group(self):
        for group in (2, 3, TOP):
            self.assertEqual(self.gains(("chances", group, 1, [1, 1, 1, 1])), [[-2], [0, 0, 1], [0, 0, 1]])

    def test_no_such_group_is_answered_ahead_of_what_is_not_right(self):
        for lower, row in ((0, [0, 0, 0, 0]), (1001, [0, 0, 0, 0]), (5, [6, 0, 0, 0]), (5, []), (0, [7] * 255)):
            self.assertEqual(self.gains(("chances", 2, lower, row)), [[-2], [0, 0, 1], [0, 0, 1]])

    def test_as_many_as_there_are_scores_now(self):
        told = ask_begun(2, ("chances", 0, 1, [1, 1]), ("begin", 1), ("chances", 0, 1, [1, 1]), ("chances", 0, 1, [1]))
        self.assertEqual(told, [[0], [0], [-22], [0]])


if __name__ == "__main__":
    unittest.main()
