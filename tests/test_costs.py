"""Promise 2: costs, forpart, forhits, ifpays."""

import unittest
from fractions import Fraction

from tests import by_words
from tests.asking import ask, ask_last
from tests.crowds import CROSS, TOP, Numbers
from tests.refusing import Refusing

COSTS = tuple(("costs", kind) for kind in range(4))


def fraction(answer):
    assert len(answer) == 3 and answer[0] == 0, answer
    return Fraction(answer[1], answer[2])


class Costs(Refusing):
    def test_how_much_more_is_gained_by_kind_0(self):
        self.assertEqual(ask_last(*CROSS, (1, 1), *COSTS), [[0, 0, 1], [0, 5, 3], [0, 9, 4], [0, 17, 7]])

    def test_kinds_that_cost_nothing(self):
        self.assertEqual(ask_last([(3, 1), (1, 3)], [(3, 1), (1, 3)], (1, 1), *COSTS), [[0, 0, 1]] * 4)

    def test_nobody_chosen_by_the_best_costs_nothing(self):
        self.assertEqual(ask_last([(8, 2), (2, 8)], [(6, 5), (5, 10)], (1, 100), *COSTS), [[0, 0, 1]] * 4)

    def test_a_loss_of_nothing_and_a_gain_of_nothing(self):
        for pays in ((7, 0), (0, 7), (0, 0)):
            self.assertEqual(ask_last(*CROSS, pays, *COSTS), [[0, 0, 1]] * 4)

    def test_it_is_the_difference_of_what_most_tells(self):
        for groups, pays in Numbers().many_groups(160):
            told = list(map(fraction, ask_last(*groups, pays, *COSTS, *[("most", kind) for kind in range(4)])))
            self.assertEqual(told[:4], [told[4] - most for most in told[4:]], groups)

    def test_refused(self):
        self.assertEqual(ask_last(*CROSS, (1, 1), ("costs", 4), ("costs", TOP)), [[-22]] * 2)
        self.assertEqual(ask(("begin", 1), ("costs", 4), ("costs", 0), ("costs", 3))[1:], [[-22], [-33], [-33]])
        self.check_lacking(*COSTS)

    def test_nothing_changes(self):
        self.check_nothing_changes(*CROSS, *COSTS, ("costs", 4))


class ForPart(Refusing):
    NAME = "forpart"
    # Of the first group, by pays of 1: the first score gains 6 for its 10, the other costs 6 for its 10.
    FIRST = ((0, 1, 0, 1), (1, 4, 3, 1), (1, 2, 6, 1), (3, 4, 3, 1), (2, 3, 4, 1), (1, 1, 0, 1), (7, 1000, 21, 250))
    # Of the second: 5 for its 5, then a cost of 5 for its 15.
    SECOND = ((0, 1000, 0, 1), (1, 8, 5, 2), (1, 4, 5, 1), (1, 2, 10, 3), (999, 1000, 1, 150), (1000, 1000, 0, 1))

    def by_words(self, cells, pays, x):
        return by_words.for_a_part(cells, pays, x)

    def test_by_hand(self):
        for group, rows in enumerate((self.FIRST, self.SECOND)):
            for upper, lower, above, below in rows:
                told = ask_last(*CROSS, (1, 1), (self.NAME, group, upper, lower))
                self.assertEqual(told, [[0, above, below]], (group, upper, lower))

    def test_a_part_of_0_and_of_1(self):
        told = ask_last(*CROSS, (3, 2), (self.NAME, 0, 0, 1), (self.NAME, 1, 0, 9), (self.NAME, 0, 1, 1), (self.NAME, 1, 9, 9))
        self.assertEqual(told, [[0, 0, 1], [0, 0, 1], [0, 10, 1], [0, 10, 1]])

    def test_below_nothing(self):
        told = ask_last([(1, 2), (0, 0)], [(2, 1), (1, 5)], (1, 3), (self.NAME, 0, 1, 2), (self.NAME, 1, 1, 1))
        self.assertEqual(told, [[0, -5, 2], [0, -15, 1]])

    def test_the_other_group_does_not_matter(self):
        for second in (CROSS[1], [(1, 1), (0, 0)], [(99, 1), (1, 99)]):
            self.assertEqual(ask_last(CROSS[0], second, (1, 1), (self.NAME, 0, 1, 2)), ask_last(*CROSS, (1, 1), (self.NAME, 0, 1, 2)))

    def test_beside_the_words(self):
        numbers = Numbers()
        for groups, pays in numbers.many_groups(320):
            lower = 1 + numbers.below((4, 30, 1000)[numbers.below(3)])
            upper = numbers.below(lower + 1)
            for group in (0, 1):
                chances = self.by_words(groups[group], pays, Fraction(upper, lower))
                told = ask_last(*groups, pays, (self.NAME, group, upper, lower))
                self.assertEqual(told, [[0] + by_words.told([by_words.gained(groups[group], chances, pays)])], (groups, pays))

    def test_what_is_not_right(self):
        wrong = [(self.NAME, 0, 0, 0), (self.NAME, 1, 0, 1001), (self.NAME, 0, 1, TOP), (self.NAME, 1, 2, 1),
                 (self.NAME, 0, 1001, 1000), (self.NAME, 1, TOP, 1), (self.NAME, 0, 1001, 1001)]
        self.assertEqual(ask_last(*CROSS, (1, 1), *wrong), [[-22]] * len(wrong))
        self.assertEqual(ask(("begin", 2), *wrong)[1:], [[-22]] * len(wrong))

    def test_no_such_group_comes_first(self):
        wrong = [(self.NAME, 2, 1, 2), (self.NAME, TOP, 0, 0), (self.NAME, 2, 3, 2)]
        self.assertEqual(ask_last(*CROSS, (1, 1), *wrong), [[-2]] * 3)
        self.assertEqual(ask(("begin", 2), *wrong)[1:], [[-2]] * 3)

    def test_somebody_lacking_comes_last(self):
        self.check_lacking((self.NAME, 0, 1, 2), (self.NAME, 1, 1, 2), (self.NAME, 0, 0, 1), (self.NAME, 1, 1000, 1000))

    def test_nothing_changes(self):
        self.check_nothing_changes(*CROSS, (self.NAME, 0, 1, 2), (self.NAME, 1, 1, 1), (self.NAME, 2, 1, 1), (self.NAME, 0, 1, 0))


class ForHits(ForPart):
    NAME = "forhits"
    # 8 of 10 by the first score, which gains 6; then 2 by a cost of 6.
    FIRST = ((0, 1, 0, 1), (2, 5, 3, 1), (4, 5, 6, 1), (9, 10, 3, 1), (1, 1, 0, 1), (1, 1000, 3, 400))
    # 5 of 10 by the first, which gains 5; then 5 by a cost of 5.
    SECOND = ((0, 1000, 0, 1), (1, 4, 5, 2), (1, 2, 5, 1), (3, 4, 5, 2), (1000, 1000, 0, 1))

    def by_words(self, cells, pays, x):
        return by_words.for_so_many_right(cells, x)

    def test_scores_with_nobody_who_turned_out_so_are_left_out(self):
        told = ask_last([(0, 9), (2, 2)], [(1, 1), (0, 50)], (1, 1), ("forhits", 0, 1, 1), ("forhits", 1, 1, 1), ("forhits", 1, 1, 2))
        self.assertEqual(told, [[0, 0, 1]] * 3)
        told = ask_last([(0, 9), (2, 1)], [(1, 1), (0, 50)], (1, 1), ("forhits", 0, 1, 1), ("forpart", 0, 1, 1))
        self.assertEqual(told, [[0, 1, 1], [0, -8, 1]])


class IfPays(Refusing):
    def test_most_with_these_pays(self):
        told = ask_last(*CROSS, (100, 1), *[("ifpays", kind, 1, 1) for kind in range(4)])
        self.assertEqual(told, [[0, 11, 1], [0, 28, 3], [0, 35, 4], [0, 60, 7]])

    def test_beside_most(self):
        numbers = Numbers()
        for groups, there in numbers.many_groups(160):
            other = numbers.pays()
            ifs = [("ifpays", kind) + other for kind in range(4)]
            mosts = [("most", kind) for kind in range(4)]
            told = ask_last(*groups, there, *mosts, *ifs, *mosts, ("pays",) + other, *mosts)
            self.assertEqual(told[4:8], told[13:], (groups, other))
            self.assertEqual(told[:4], told[8:12], (groups, there))

    def test_the_edges_of_pays(self):
        calls = [("ifpays", 0, 0, 0), ("ifpays", 0, 100, 0), ("ifpays", 0, 0, 100), ("ifpays", 0, 100, 100), ("ifpays", 3, 100, 0)]
        self.assertEqual(ask_last(*CROSS, (1, 1), *calls), [[0, 0, 1], [0, 2000, 1], [0, 0, 1], [0, 1100, 1], [0, 2000, 1]])

    def test_refused_in_their_order(self):
        wrong = [("ifpays", 4, 1, 1), ("ifpays", TOP, 1, 1), ("ifpays", 0, 101, 1), ("ifpays", 1, 1, 101), ("ifpays", 2, TOP, 0),
                 ("ifpays", 3, 0, TOP), ("ifpays", 4, 101, 101)]
        self.assertEqual(ask_last(*CROSS, (1, 1), *wrong), [[-22]] * 7)
        self.assertEqual(ask(("begin", 1), *wrong)[1:], [[-22]] * 7)
        self.check_lacking(*[("ifpays", kind, 100, 100) for kind in range(4)])

    def test_nothing_changes(self):
        self.check_nothing_changes(*CROSS, ("ifpays", 1, 7, 9), ("ifpays", 0, 101, 0), ("ifpays", 4, 1, 1))


if __name__ == "__main__":
    unittest.main()
