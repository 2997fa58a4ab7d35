"""Promise 2: rule, take, meets; by hand, and the rules beside what the document's words make."""

import unittest
from fractions import Fraction

from tests import by_words
from tests.asking import ask, ask_last
from tests.beside import Beside
from tests.crowds import CROSS, TOP, Numbers
from tests.refusing import Refusing

RULES = tuple(("rule", kind, group) for kind in range(4) for group in (0, 1))


def rules_of(first, second, pays):
    """For each kind, what is told of both groups' rules, without how many scores."""
    told = ask_last(first, second, pays, *RULES)
    for answer in told:
        assert answer[0] == len(first), told
    return [(told[2 * kind][1:], told[2 * kind + 1][1:]) for kind in range(4)]


class Rule(Refusing):
    def test_each_kind(self):
        told = ask_last(*CROSS, (1, 1), *RULES)
        self.assertEqual(told, [[2, 1, 1, 0, 1], [2, 1, 1, 0, 1], [2, 1, 1, 0, 1], [2, 1, 1, 1, 3],
                                [2, 5, 8, 0, 1], [2, 1, 1, 0, 1], [2, 5, 7, 0, 1], [2, 1, 1, 1, 7]])

    def test_a_group_that_can_do_more_does_as_much(self):
        # Group 1's most goes by (1/2, 3/4), the best. In group 0 the most for 1/2 is 1 and 1/3, which makes 5/6; the
        # fewest none and 2/3, which makes 1/6; so m is 7/8.
        told = rules_of([(6, 2), (2, 6)], [(3, 2), (1, 2)], (1, 1))[3]
        self.assertEqual(told, ([7, 8, 3, 8], [1, 1, 0, 1]))

    def test_the_fewest_of_like_scores_begin_with_the_lesser(self):
        # The most: 1, 2/3, none. The fewest: none, 1, 1/3. m is 7/8.
        told = rules_of([(6, 2), (1, 3), (1, 3)], [(3, 2), (1, 2), (0, 0)], (1, 1))[3]
        self.assertEqual(told, ([7, 8, 17, 24, 1, 24], [1, 1, 0, 1, 0, 1]))

    def test_the_fewest_have_none_with_nobody_who_turned_out_not_so(self):
        # The most: 1, 1, 1/5. The fewest: none, none, 4/5. m is 13/16.
        told = rules_of([(4, 0), (3, 3), (1, 5)], [(3, 2), (1, 2), (0, 0)], (1, 1))[3]
        self.assertEqual(told, ([13, 16, 13, 16, 5, 16], [1, 1, 0, 1, 0, 1]))

    def test_of_like_scores_the_lesser_are_chosen_first(self):
        # Group 1's second score costs so much that its first alone is chosen, 2/7 of it and 3/4 of those who turned out so.
        told = rules_of([(2, 2), (4, 0), (4, 0)], [(3, 1), (1, 9), (0, 0)], (2, 3))
        self.assertEqual(told[1], ([0, 1, 6, 7, 0, 1], [1, 1, 0, 1, 0, 1]))
        self.assertEqual(told[2], ([0, 1, 1, 1, 7, 8], [1, 1, 0, 1, 0, 1]))

    def test_a_loss_of_nothing(self):
        told = rules_of([(8, 2), (2, 8), (0, 5)], [(5, 0), (5, 10), (0, 15)], (1, 0))
        self.assertEqual(told[0], ([1, 1, 1, 1, 0, 1],) * 2)
        self.assertEqual(told[1], ([1, 1, 1, 1, 0, 1], [1, 1, 1, 1, 8, 15]))
        self.assertEqual(told[2], ([1, 1, 1, 1, 0, 1],) * 2)

    def test_a_gain_of_nothing(self):
        # Of kind 3 those who cost nothing are chosen, as many as both groups have.
        told = rules_of([(3, 0), (7, 10)], [(5, 0), (5, 10)], (0, 1))
        self.assertEqual(told, [([0, 1, 0, 1],) * 2] * 3 + [([1, 1, 0, 1], [3, 5, 0, 1])])

    def test_nobody_chosen_by_the_best(self):
        told = rules_of([(8, 2), (2, 8)], [(6, 5), (5, 10)], (1, 100))
        self.assertEqual(told, [([0, 1, 0, 1],) * 2] * 4)

    def test_all_chosen_by_the_best(self):
        told = rules_of([(8, 2), (2, 8)], [(6, 5), (5, 10)], (100, 1))
        self.assertEqual(told, [([1, 1, 1, 1],) * 2] * 4)

    def test_a_score_that_gains_nothing_is_left_out(self):
        cells = [(4, 2), (3, 3), (1, 3)]
        self.assertEqual(rules_of(cells, cells, (1, 1)), [([1, 1, 0, 1, 0, 1],) * 2] * 4)

    def test_scores_without_people_are_not_chosen(self):
        bare = rules_of(*CROSS, (1, 1))
        wide = rules_of([(0, 0), (8, 2), (0, 0), (2, 8)], [(5, 0), (0, 0), (5, 10), (0, 0)], (1, 1))
        for kind in range(4):
            first, second = bare[kind]
            self.assertEqual(wide[kind], ([0, 1] + first[:2] + [0, 1] + first[2:], second[:2] + [0, 1] + second[2:] + [0, 1]))

    def test_refused_in_their_order(self):
        whole = ask_last(*CROSS, (1, 1), ("rule", 0, 2), ("rule", 4, 2), ("rule", TOP, TOP), ("rule", 4, 0), ("rule", TOP, 1))
        self.assertEqual(whole, [[-2], [-2], [-2], [-22], [-22]])
        lacking = ask(("begin", 2), ("rule", 0, 2), ("rule", 4, 2), ("rule", 4, 1), ("rule", 0, 0), ("rule", 3, 1))
        self.assertEqual(lacking[1:], [[-2], [-2], [-22], [-33], [-33]])

    def test_somebody_is_lacking_in_some_group(self):
        self.check_lacking(*RULES)

    def test_nothing_changes(self):
        self.check_nothing_changes(*CROSS, *RULES, ("rule", 4, 0), ("rule", 0, 2))


class BesideTheWords(Beside, unittest.TestCase):
    def check(self, first, second, pays):
        told = rules_of(first, second, pays)
        for kind in range(4):
            words = by_words.rules(kind, (first, second), pays)
            self.assertEqual(told[kind], tuple(map(by_words.told, words)), (first, second, pays, kind))


class Take(Refusing):
    def test_the_rules_are_both_groups_chances_now(self):
        for kind in range(4):
            told = ask_last(*CROSS, (1, 1), ("chances", 0, 9, [4, 2]), ("chances", 1, 9, [1, 7]), ("rule", kind, 0),
                            ("rule", kind, 1), ("take", kind), ("state",))
            self.assertEqual(told[4], [0])
            self.assertEqual(told[5], [2, 1, 1] + told[2][1:] + told[3][1:])

    def test_what_it_changes(self):
        asked = (("gains", 0), ("gains", 1), ("picked", 0), ("picked", 1), ("meets", 1), ("meets", 2), ("meets", 3), ("state",))
        told = ask_last(*CROSS, (1, 1), ("chances", 0, 2, [1, 0]), ("chances", 1, 1, [1, 1]), *asked, ("take", 1), *asked,
                        ("take", 2), *asked)
        self.assertEqual(told[2:10], [[0, 3, 1], [0, 0, 1], [0, 1, 4], [0, 1, 1], [0], [0], [0], [2, 1, 1, 1, 2, 0, 1, 1, 1, 1, 1]])
        self.assertEqual(told[10:19], [[0], [0, 6, 1], [0, 10, 3], [0, 1, 2], [0, 1, 2], [1], [0], [0],
                                       [2, 1, 1, 1, 1, 0, 1, 1, 1, 1, 3]])
        self.assertEqual(told[19:28], [[0], [0, 15, 4], [0, 5, 1], [0, 5, 16], [0, 1, 4], [0], [1], [0],
                                       [2, 1, 1, 5, 8, 0, 1, 1, 1, 0, 1]])

    def test_chances_that_were_taken_stay_when_counts_and_pays_change(self):
        told = ask_last(*CROSS, (1, 1), ("take", 1), ("count", 1, 1, 0, 9), ("pays", 2, 1), ("state",), ("gains", 1))
        self.assertEqual(told, [[0], [9], [0], [2, 2, 1, 1, 1, 0, 1, 1, 1, 1, 3], [0, 7, 1]])

    def test_chances_may_be_told_behind_it(self):
        told = ask_last(*CROSS, (1, 1), ("take", 1), ("chances", 1, 4, [2, 1]), ("state",))
        self.assertEqual(told[2], [2, 1, 1, 1, 1, 0, 1, 1, 2, 1, 4])

    def test_with_the_pays_there_are(self):
        told = ask_last(*CROSS, (1, 100), ("take", 0), ("state",), ("pays", 100, 1), ("state",), ("take", 0), ("state",))
        kept = [0, 1, 0, 1, 1, 1, 0, 1]
        self.assertEqual(told, [[0], [2, 1, 100] + kept, [0], [2, 100, 1] + kept, [0], [2, 100, 1] + [1, 1] * 4])

    def test_refused_in_their_order(self):
        self.assertEqual(ask_last(*CROSS, (1, 1), ("take", 4), ("take", TOP)), [[-22], [-22]])
        self.assertEqual(ask(("begin", 1), ("take", 4), ("take", TOP), ("take", 0), ("take", 3))[1:], [[-22], [-22], [-33], [-33]])
        self.check_lacking(*[("take", kind) for kind in range(4)])

    def test_what_is_refused_changes_nothing(self):
        self.check_nothing_changes(*CROSS, ("take", 4), ("take", TOP))


class Meets(Refusing):
    KINDS = tuple(("meets", kind) for kind in range(4))

    def met(self, first, second, lower, chances):
        told = ask_last(first, second, (1, 1), ("chances", 0, lower, chances[0]), ("chances", 1, lower, chances[1]), *self.KINDS)
        return [answer[0] for answer in told[2:] if len(answer) == 1]

    def test_as_large_a_part(self):
        # 10 of 20, and 5 with 5 of 20; of those who turned out so 8 and 6 2/3 of 10.
        self.assertEqual(self.met(*CROSS, 3, ([3, 0], [3, 1])), [1, 1, 0, 0])

    def test_as_large_a_part_of_those_who_turned_out_so(self):
        self.assertEqual(self.met(*CROSS, 8, ([5, 0], [8, 0])), [1, 0, 1, 0])

    def test_and_of_those_who_did_not(self):
        self.assertEqual(self.met(*CROSS, 7, ([5, 0], [7, 1])), [1, 1, 1, 1])

    def test_that_of_those_who_did_not_alone_is_no_kind(self):
        # 2 of 10 and 2 of 10 of those who turned out not so; 8 and 1 of 10 of the others.
        self.assertEqual(self.met(*CROSS, 5, ([5, 0], [0, 1])), [1, 0, 0, 0])

    def test_both_without_as_large_a_part_of_the_group(self):
        # Half of each, but group 0 has more who turned out so: 6 of 9 are chosen there, 6 of 12 here.
        first, second = [(6, 0), (0, 3)], [(6, 0), (0, 6)]
        self.assertEqual(self.met(first, second, 3, ([2, 1], [2, 1])), [1, 0, 1, 1])

    def test_chances_that_meet_none(self):
        self.assertEqual(self.met(*CROSS, 2, ([1, 0], [2, 2])), [1, 0, 0, 0])
        self.assertEqual(self.met(*CROSS, 1000, ([500, 500], [500, 501])), [1, 0, 0, 0])

    def test_chances_all_alike_meet_all(self):
        for upper in (0, 1, 3, 7):
            self.assertEqual(self.met([(8, 2), (2, 8)], [(5, 1), (7, 9)], 7, ([upper] * 2, [upper] * 2)), [1, 1, 1, 1])

    def test_the_chance_of_a_score_without_people_does_not_matter(self):
        first, second = [(8, 2), (0, 0)], [(0, 0), (5, 10)]
        self.assertEqual(self.met(first, second, 4, ([1, 4], [0, 1])), [1, 1, 1, 1])

    def test_groups_of_unlike_size(self):
        self.assertEqual(self.met([(1, 0), (1, 2)], [(40, 0), (40, 80)], 9, ([9, 4], [9, 4])), [1, 1, 1, 1])

    def test_new_chances_meet_all(self):
        self.assertEqual(ask_last(*CROSS, (1, 1), *self.KINDS), [[1]] * 4)

    def test_pays_do_not_matter(self):
        told = ask_last(*CROSS, (1, 1), ("take", 2), *self.KINDS, ("pays", 0, 0), *self.KINDS, ("pays", 100, 3), *self.KINDS)
        for answers in (told[1:5], told[6:10], told[11:15]):
            self.assertEqual(answers, [[1], [0], [1], [0]])

    def test_counts_that_change_matter(self):
        told = ask_last(*CROSS, (1, 1), ("take", 3), *self.KINDS, ("count", 0, 0, 8, 3), *self.KINDS)
        self.assertEqual([told[1:5], told[6:]], [[[1]] * 4, [[1], [0], [1], [0]]])

    def test_beside_another_way(self):
        numbers = Numbers()
        for case in range(200):
            groups = numbers.groups(1 + case % 3, 2)
            chances = [[numbers.below(3) for cell in cells] for cells in groups]
            sums = [[(cell[0] + cell[1], cell[0], cell[1]) for cell in cells] for cells in groups]
            size, so, others = [[Fraction(sum(column[side] * chance for column, chance in zip(sums[group], chances[group])),
                                          sum(column[side] for column in sums[group])) for group in (0, 1)] for side in range(3)]
            expected = [True, size[0] == size[1], so[0] == so[1], so[0] == so[1] and others[0] == others[1]]
            self.assertEqual(self.met(*groups, 2, chances), list(map(int, expected)), (groups, chances))

    def test_refused_in_their_order(self):
        self.assertEqual(ask_last(*CROSS, (1, 1), ("meets", 4), ("meets", TOP)), [[-22], [-22]])
        self.assertEqual(ask(("begin", 1), ("meets", 4), ("meets", TOP), *self.KINDS)[1:], [[-22], [-22]] + [[-33]] * 4)
        self.check_lacking(*self.KINDS)

    def test_nothing_changes(self):
        self.check_nothing_changes(*CROSS, *self.KINDS, ("meets", 4))


if __name__ == "__main__":
    unittest.main()
