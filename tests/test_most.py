"""Promises 2 and 3: most and part, by hand and beside another way to reckon them."""

import unittest
from fractions import Fraction
from itertools import product

from tests import oracle
from tests.asking import ask, ask_last, counts
from tests.beside import Beside
from tests.crowds import CROSS, TOP

ALL = (("most", 0), ("most", 1), ("most", 2), ("most", 3), ("part", 1), ("part", 2), ("part", 3))


class Refused(unittest.TestCase):
    def test_no_such_kind(self):
        calls = [("most", 4), ("most", 5), ("most", TOP), ("part", 0), ("part", 4), ("part", TOP)]
        self.assertEqual(ask_last(*CROSS, (1, 1), *calls), [[-22]] * 6)

    def test_somebody_is_lacking(self):
        whole = [(1, 1), (2, 2)]
        for lacking in ([(0, 1), (0, 2)], [(1, 0), (2, 0)], [(0, 0), (0, 0)]):
            self.assertEqual(ask_last(lacking, whole, (1, 1), *ALL), [[-33]] * 7)
            self.assertEqual(ask_last(whole, lacking, (1, 1), *ALL), [[-33]] * 7)

    def test_so_in_one_score_and_not_so_in_another_is_enough(self):
        told = ask_last([(1, 0), (0, 1)], [(0, 1), (1, 0)], (1, 1), *ALL)
        self.assertEqual(told, [[0, 2, 1]] * 4 + [[0, 1, 2], [0, 1, 1], [0, 1, 1]])

    def test_no_such_kind_is_answered_ahead_of_somebody_lacking(self):
        self.assertEqual(ask(("begin", 1), ("most", 4), ("part", 0), ("part", 4), ("most", 0), ("part", 1)),
                         [[0], [-22], [-22], [-22], [-33], [-33]])

    def test_nothing_changes(self):
        calls = counts(*CROSS) + [("pays", 3, 1), ("chances", 0, 2, [1, 2]), ("chances", 1, 3, [1, 2])]
        seen = [("gains", 0), ("gains", 1), ("picked", 0), ("picked", 1), ("cell", 0, 1), ("cell", 1, 0)]
        before = ask(*calls, *seen)[-6:]
        self.assertEqual(ask(*calls, ("most", 4), ("part", 0), ("part", 9), *seen)[-6:], before)
        self.assertEqual(ask(*calls, *ALL, *seen)[-6:], before)


class ByHand(unittest.TestCase):
    def test_the_best_of_kind_3_lies_where_the_mosts_cross(self):
        told = ask_last(*CROSS, (1, 1), *ALL)
        self.assertEqual(told, [[0, 11, 1], [0, 28, 3], [0, 35, 4], [0, 60, 7], [0, 1, 2], [0, 1, 2], [0, 4, 7]])

    def test_they_cross_the_other_way_round(self):
        told = ask_last(CROSS[1], CROSS[0], (1, 1), *ALL)
        self.assertEqual(told, [[0, 11, 1], [0, 28, 3], [0, 35, 4], [0, 60, 7], [0, 1, 2], [0, 1, 2], [0, 4, 7]])

    def test_they_cross_between_other_stops(self):
        # Group 0 by (0, 1/5), (1/2, 9/10), (1, 1); group 1 by (0, 0), (1/4, 3/4), (1, 1). They cross at x = 1/8, and again
        # where 1/5 + 7/5 x = 2/3 + 1/3 x: x = 7/16, y = 13/16. That's worth 2*14*13/16 - 14*7/16.
        told = ask_last([(2, 0), (7, 5), (1, 5)], [(0, 0), (3, 1), (1, 3)], (2, 1), ("most", 3), ("part", 3))
        self.assertEqual(told, [[0, 133, 8], [0, 13, 16]])

    def test_the_best_of_kind_3_where_one_group_bounds_it(self):
        # Group 1 chooses of all alike, so x is y: each x is worth 15x - 14x.
        told = ask_last([(5, 1), (1, 4)], [(8, 8), (1, 1)], (1, 1), *ALL)
        self.assertEqual(told, [[0, 4, 1], [0, 4, 1], [0, 4, 1], [0, 1, 1], [0, 6, 11], [0, 5, 6], [0, 1, 1]])

    def test_scores_need_not_be_in_order(self):
        told = ask_last([(2, 8), (8, 2)], [(5, 10), (5, 0)], (1, 1), *ALL)
        self.assertEqual(told, [[0, 11, 1], [0, 28, 3], [0, 35, 4], [0, 60, 7], [0, 1, 2], [0, 1, 2], [0, 4, 7]])


class BesideOracle(unittest.TestCase):
    def check(self, first, second, pays):
        told = ask_last(first, second, pays, *ALL)
        for kind in range(4):
            gain, part = oracle.best(kind, (first, second), pays)
            self.assertEqual(told[kind], [0, gain.numerator, gain.denominator], (first, second, pays, kind))
            if kind > 0:
                self.assertEqual(told[3 + kind], [0, part.numerator, part.denominator], (first, second, pays, kind))


class Corners(BesideOracle):
    def test_a_loss_of_nothing(self):
        # All who turned out so are chosen; 20 of 25 and 20 of 35 have scores with some, 10 of 15 and 10 of 25 not so.
        first, second = [(8, 2), (2, 8), (0, 5)], [(5, 0), (5, 10), (0, 15)]
        told = ask_last(first, second, (1, 0), *ALL)
        self.assertEqual(told, [[0, 20, 1]] * 4 + [[0, 4, 5], [0, 1, 1], [0, 1, 1]])

    def test_a_gain_of_nothing(self):
        # Nobody is chosen of kinds 1 and 2; of kind 3 those who cost nothing are, as many as both groups have.
        told = ask_last([(3, 0), (7, 10)], [(5, 0), (5, 10)], (0, 1), *ALL)
        self.assertEqual(told, [[0, 0, 1]] * 4 + [[0, 0, 1], [0, 0, 1], [0, 3, 10]])

    def test_a_gain_and_a_loss_of_nothing(self):
        told = ask_last([(3, 0), (7, 10)], [(5, 0), (5, 10)], (0, 0), *ALL)
        self.assertEqual(told, [[0, 0, 1]] * 4 + [[0, 0, 1], [0, 0, 1], [0, 3, 10]])

    def test_nobody_chosen_by_the_best(self):
        told = ask_last([(8, 2), (2, 8)], [(6, 5), (5, 10)], (1, 100), *ALL)
        self.assertEqual(told, [[0, 0, 1]] * 7)

    def test_a_score_that_gains_nothing(self):
        # The middle score gains nothing in both groups: of like x the least leaves it out.
        told = ask_last([(4, 2), (3, 3), (1, 3)], [(4, 2), (3, 3), (1, 3)], (1, 1), *ALL)
        self.assertEqual(told, [[0, 4, 1]] * 4 + [[0, 3, 8], [0, 1, 2], [0, 1, 2]])

    def test_groups_of_unlike_size(self):
        # Group 1 gains 91 by the first score, half of it; group 0 gains 1 by a third of it, and by more of it no less.
        first, second = [(1, 0), (1, 1)], [(95, 4), (5, 94)]
        told = ask_last(first, second, (1, 1), *ALL[:3], *ALL[4:6])
        self.assertEqual(told, [[0, 92, 1], [0, 92, 1], [0, 92, 1], [0, 1, 2], [0, 19, 20]])
        self.check(first, second, (1, 1))

    def test_scores_without_people(self):
        bare = ask_last(*CROSS, (1, 1), *ALL)
        wide = ask_last([(0, 0), (8, 2), (0, 0), (2, 8)], [(5, 0), (0, 0), (5, 10), (0, 0)], (1, 1), *ALL)
        self.assertEqual(wide, bare)

    def test_a_part_of_all(self):
        told = ask_last([(8, 2), (2, 8)], [(6, 5), (5, 10)], (100, 1), *ALL)
        self.assertEqual(told, [[0, 2100 - 25, 1]] * 4 + [[0, 1, 1]] * 3)

    def test_kinds_that_cost_nothing(self):
        # Groups that are alike choose alike.
        told = ask_last([(3, 1), (1, 3)], [(3, 1), (1, 3)], (1, 1), *ALL)
        self.assertEqual(told, [[0, 4, 1]] * 4 + [[0, 1, 2], [0, 3, 4], [0, 3, 4]])

    def test_one_score(self):
        told = ask_last([(3, 1)], [(1, 2)], (1, 1), *ALL)
        self.assertEqual(told, [[0, 2, 1], [0, 1, 1], [0, 1, 1], [0, 1, 1], [0, 1, 1], [0, 1, 1], [0, 1, 1]])

    def test_the_largest_numbers(self):
        self.check([(99, 99)] * 3 + [(99, 0)], [(99, 99)] * 3 + [(0, 99)], (100, 99))
        self.check([(99, 1), (98, 97), (1, 99)], [(1, 98), (97, 2), (99, 95)], (100, 100))


class BesideAnotherWay(Beside, BesideOracle):
    """All that is beside the oracle, over many groups."""


class WhatHolds(unittest.TestCase):
    def test_no_chances_that_meet_a_kind_gain_more(self):
        first, second = [(3, 1), (1, 3)], [(2, 0), (2, 4)]
        rows = {kind: oracle.rows_of(kind, (first, second)) for kind in range(4)}
        most = [Fraction(gain[1], gain[2]) for gain in ask_last(first, second, (1, 1), *ALL[:4])]
        gains = oracle.gain_row((first, second), (1, 1))
        for uppers in product(range(7), repeat=4):
            chances = [Fraction(upper, 6) for upper in uppers]
            for kind in range(4):
                if all(oracle.dot(row, chances) == 0 for row in rows[kind]):
                    self.assertLessEqual(oracle.dot(gains, chances), most[kind], (kind, uppers))

    def test_most_and_part_do_not_hang_on_the_chances_there_are(self):
        calls = counts(*CROSS)
        changed = calls + [("chances", 0, 2, [1, 2]), ("chances", 1, 3, [1, 0])]
        self.assertEqual(ask(*calls, *ALL)[-7:], ask(*changed, *ALL)[-7:])


if __name__ == "__main__":
    unittest.main()
