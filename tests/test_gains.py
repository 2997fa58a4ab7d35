"""Promise 2: pays, gains, picked."""

import unittest

from tests.asking import ask

TOP = 4294967295
# Group 0: scores (4, 1), (0, 0), (1, 5). Group 1: all of them are (0, 0), (2, 3), (0, 0).
CROWD = (("begin", 3), ("count", 0, 0, 4, 1), ("count", 0, 2, 1, 5), ("count", 1, 1, 2, 3))


def ask_crowd(*calls):
    return ask(*CROWD, *calls)[len(CROWD):]


class Pays(unittest.TestCase):
    def test_up_to_a_hundred(self):
        for gain, loss in ((0, 0), (0, 100), (100, 0), (100, 100), (7, 3)):
            told = ask_crowd(("chances", 0, 1, [1, 0, 0]), ("pays", gain, loss), ("gains", 0))
            self.assertEqual(told, [[0], [0], [0, 4 * gain - loss, 1]])

    def test_above_a_hundred_changes_nothing(self):
        for gain, loss in ((101, 0), (0, 101), (101, 101), (TOP, 0), (0, TOP)):
            told = ask_crowd(("chances", 0, 1, [1, 0, 0]), ("pays", 7, 3), ("pays", gain, loss), ("gains", 0))
            self.assertEqual(told, [[0], [0], [-22], [0, 25, 1]])

    def test_pays_reach_most_and_part(self):
        crowd = (("begin", 1), ("count", 0, 0, 2, 3), ("count", 1, 0, 1, 1))
        told = ask(*crowd, ("most", 1), ("part", 1), ("pays", 5, 1), ("most", 1), ("part", 1), ("pays", 101, 0), ("most", 1))
        self.assertEqual(told[3:], [[0, 0, 1], [0, 0, 1], [0], [0, 11, 1], [0, 1, 1], [-22], [0, 11, 1]])


class Gains(unittest.TestCase):
    def test_score_by_score(self):
        # 1/2 of 3*4 - 2*1, and 1/3 of 3*1 - 2*5.
        told = ask_crowd(("pays", 3, 2), ("chances", 0, 6, [3, 6, 2]), ("gains", 0), ("gains", 1))
        self.assertEqual(told[2:], [[0, 8, 3], [0, 0, 1]])

    def test_below_nothing_the_upper_number_is_below_zero(self):
        told = ask_crowd(("chances", 0, 6, [0, 0, 4]), ("gains", 0), ("chances", 1, 2, [2, 1, 2]), ("gains", 1))
        self.assertEqual(told, [[0], [0, -8, 3], [0], [0, -1, 2]])

    def test_nothing_is_nought_by_one(self):
        told = ask_crowd(("pays", 3, 2), ("chances", 1, 1000, [999, 777, 333]), ("gains", 1),
                         ("pays", 0, 0), ("chances", 0, 7, [1, 2, 3]), ("gains", 0))
        self.assertEqual([told[2], told[5]], [[0, 0, 1], [0, 0, 1]])

    def test_an_empty_group_gains_nothing(self):
        self.assertEqual(ask(("begin", 2), ("chances", 1, 1, [1, 1]), ("gains", 1))[2], [0, 0, 1])

    def test_counts_and_pays_told_behind_the_chances(self):
        told = ask_crowd(("chances", 1, 4, [0, 3, 0]), ("gains", 1), ("count", 1, 1, 9, 3), ("gains", 1), ("pays", 1, 2), ("gains", 1))
        self.assertEqual(told, [[0], [0, -3, 4], [12], [0, 9, 2], [0], [0, 9, 4]])

    def test_no_such_group(self):
        self.assertEqual(ask_crowd(("gains", 2), ("gains", TOP)), [[-2], [-2]])


class Picked(unittest.TestCase):
    def test_the_part_that_is_chosen_in_the_mean(self):
        # Half of five and a third of six, of eleven.
        told = ask_crowd(("chances", 0, 6, [3, 6, 2]), ("picked", 0), ("chances", 1, 10, [10, 4, 10]), ("picked", 1))
        self.assertEqual(told, [[0], [0, 9, 22], [0], [0, 2, 5]])

    def test_none_and_all(self):
        told = ask_crowd(("picked", 0), ("chances", 0, 5, [5, 5, 5]), ("picked", 0), ("chances", 0, 5, [5, 0, 5]), ("picked", 0),
                         ("chances", 0, 5, [0, 5, 0]), ("picked", 0))
        self.assertEqual(told[::2], [[0, 0, 1], [0, 1, 1], [0, 1, 1], [0, 0, 1]])

    def test_pays_do_not_matter(self):
        told = ask_crowd(("chances", 0, 6, [3, 6, 2]), ("pays", 0, 100), ("picked", 0))
        self.assertEqual(told[2], [0, 9, 22])

    def test_those_who_are_all_so_or_all_not_so_are_somebody(self):
        told = ask(("begin", 1), ("count", 0, 0, 1, 0), ("picked", 0), ("count", 1, 0, 0, 1), ("picked", 1))
        self.assertEqual(told[2::2], [[0, 0, 1], [0, 0, 1]])

    def test_an_empty_group(self):
        told = ask(("begin", 2), ("chances", 0, 1, [1, 1]), ("count", 0, 1, 3, 0), ("picked", 1), ("picked", 0),
                   ("count", 0, 1, 0, 0), ("picked", 0))
        self.assertEqual(told[3:], [[-33], [0, 1, 1], [0], [-33]])

    def test_no_such_group_is_answered_ahead_of_an_empty_one(self):
        self.assertEqual(ask(("begin", 1), ("picked", 2), ("picked", TOP)), [[0], [-2], [-2]])


if __name__ == "__main__":
    unittest.main()
