"""Promise 3: what holds of every kind's rule, over many groups, asked through the calls alone."""

import unittest
from fractions import Fraction
from itertools import product
from math import lcm

from tests import oracle
from tests.asking import ask_last
from tests.crowds import Numbers

KINDS = range(4)
MOSTS = tuple(("most", kind) for kind in KINDS)
GAINS = (("gains", 0), ("gains", 1))
MEETS = tuple(("meets", kind) for kind in KINDS)


def fractions(row):
    return [Fraction(upper, lower) for upper, lower in zip(row[::2], row[1::2])]


def both(told):
    """What both groups gain, from what is told of each."""
    return sum(Fraction(gain[1], gain[2]) for gain in told)


def mosts_of(groups, pays):
    return [Fraction(most[1], most[2]) for most in ask_last(*groups, pays, *MOSTS)]


def many_groups(many):
    return Numbers().many_groups(many)


def by_whole_numbers(chances):
    """The b and l of the call chances, if b is no more than it may be."""
    lower = lcm(*[Fraction(chance).denominator for chance in chances])
    return (lower, [int(chance * lower) for chance in chances]) if lower <= 1000 else None


class EachRule(unittest.TestCase):
    def test_meets_its_kind_and_gains_what_is_told(self):
        for groups, pays in many_groups(300):
            mosts = mosts_of(groups, pays)
            for kind in KINDS:
                told = ask_last(*groups, pays, ("take", kind), ("meets", kind), *GAINS)
                self.assertEqual(told[:2], [[0], [1]], (groups, pays, kind))
                self.assertEqual(both(told[2:]), mosts[kind], (groups, pays, kind))

    def test_gains_no_more_than_any_kind_that_it_meets(self):
        for groups, pays in many_groups(150):
            mosts = mosts_of(groups, pays)
            for kind in KINDS:
                told = ask_last(*groups, pays, ("take", kind), *MEETS, *GAINS)
                for other in KINDS:
                    if told[1 + other] == [1]:
                        self.assertLessEqual(both(told[5:]), mosts[other], (groups, pays, kind, other))

    def test_is_of_chances_from_0_to_1(self):
        for groups, pays in many_groups(150):
            for kind in KINDS:
                told = ask_last(*groups, pays, ("rule", kind, 0), ("rule", kind, 1), ("take", kind), ("state",))
                self.assertEqual(told[3], [len(groups[0]), *pays] + told[0][1:] + told[1][1:])
                for cells, row in zip(groups, told):
                    self.assertEqual(row[0], len(cells))
                    for cell, chance in zip(cells, fractions(row[1:])):
                        self.assertTrue(0 <= chance <= (1 if cell != (0, 0) else 0), (groups, pays, kind))

    def test_has_the_part_that_is_told(self):
        for groups, pays in many_groups(150):
            told = ask_last(*groups, pays, ("part", 1), ("take", 1), ("picked", 0), ("picked", 1))
            self.assertEqual([told[2], told[3]], [told[0]] * 2, (groups, pays))
            for kind in (2, 3):
                told = ask_last(*groups, pays, ("part", kind), ("rule", kind, 0), ("rule", kind, 1))
                for cells, row in zip(groups, told[1:]):
                    chosen = sum(cell[0] * chance for cell, chance in zip(cells, fractions(row[1:])))
                    self.assertEqual(chosen / sum(cell[0] for cell in cells), Fraction(told[0][1], told[0][2]), (groups, pays))

    def test_costs_are_what_taking_it_gains_less(self):
        for groups, pays in many_groups(100):
            for kind in KINDS:
                told = ask_last(*groups, pays, ("costs", kind), ("take", 0), *GAINS, ("take", kind), *GAINS)
                self.assertEqual(both(told[2:4]) - both(told[5:]), Fraction(told[0][1], told[0][2]), (groups, pays, kind))


class NoChancesGainMore(unittest.TestCase):
    def check(self, groups, pays, mosts, chances):
        """What chances meet, told as the call chances takes them; by none of that they gain more."""
        told = ask_last(*groups, pays, ("chances", 0) + chances[0], ("chances", 1) + chances[1], *MEETS, *GAINS)
        met = [answer == [1] for answer in told[2:6]]
        for kind in KINDS:
            if met[kind]:
                self.assertLessEqual(both(told[6:]), mosts[kind], (groups, pays, chances, kind))
        return met

    def test_chances_by_quarters(self):
        seen = [0] * 4
        for groups, pays in ((([(3, 1), (1, 3)], [(2, 0), (2, 4)]), (1, 1)), (([(2, 2), (2, 6)], [(0, 4), (4, 4)]), (3, 1))):
            mosts = mosts_of(groups, pays)
            for uppers in product(range(5), repeat=4):
                met = self.check(groups, pays, mosts, ((4, list(uppers[:2])), (4, list(uppers[2:]))))
                seen = [before + now for before, now in zip(seen, met)]
        # Such as meet a kind were among them, more than those that choose of all alike.
        self.assertEqual(seen[0], 1250)
        self.assertTrue(all(many > 10 for many in seen), seen)

    def test_the_same_chance_for_all(self):
        for groups, pays in many_groups(100):
            mosts = mosts_of(groups, pays)
            for upper in range(4):
                same = (3, [upper] * len(groups[0]))
                self.assertEqual(self.check(groups, pays, mosts, (same, same)), [True] * 4)

    def test_the_corners_of_all_that_meet_a_kind(self):
        numbers = Numbers()
        tried = [0] * 4
        for case in range(24):
            groups, pays = numbers.groups(2, (3, 6)[case % 2]), numbers.pays()
            mosts = mosts_of(groups, pays)
            for kind in KINDS:
                for corner in oracle.corners(kind, groups):
                    chances = by_whole_numbers(corner[:2]), by_whole_numbers(corner[2:])
                    if None not in chances:
                        self.assertTrue(self.check(groups, pays, mosts, chances)[kind], (groups, corner, kind))
                        tried[kind] += 1
        self.assertTrue(all(many > 50 for many in tried), tried)


class Parts(unittest.TestCase):
    def test_forpart_and_forhits_at_the_part_that_is_told_gain_the_most(self):
        seen = 0
        for groups, pays in many_groups(200):
            told = ask_last(*groups, pays, ("part", 1), ("part", 2), ("most", 1), ("most", 2))
            for kind, name in ((1, "forpart"), (2, "forhits")):
                part = told[kind - 1][1:]
                if part[1] <= 1000:
                    gains = ask_last(*groups, pays, (name, 0, *part), (name, 1, *part))
                    self.assertEqual(both(gains), Fraction(told[kind + 1][1], told[kind + 1][2]), (groups, pays, name))
                    seen += 1
        self.assertGreater(seen, 300)

    def test_no_part_gains_more(self):
        for groups, pays in many_groups(60):
            mosts = mosts_of(groups, pays)
            for upper in range(13):
                told = ask_last(*groups, pays, *[(name, group, upper, 12) for name in ("forpart", "forhits") for group in (0, 1)])
                self.assertLessEqual(both(told[:2]), mosts[1], (groups, pays, upper))
                self.assertLessEqual(both(told[2:]), mosts[2], (groups, pays, upper))


class AmongOneAnother(unittest.TestCase):
    def test_kinds_that_ask_more_gain_no_more_and_none_less_than_nothing(self):
        for groups, pays in many_groups(400):
            freely, part, right, alike = mosts_of(groups, pays)
            self.assertTrue(0 <= alike <= right <= freely, (groups, pays))
            self.assertTrue(0 <= part <= freely, (groups, pays))

    def test_parts_are_from_0_to_1(self):
        for groups, pays in many_groups(200):
            for part in ask_last(*groups, pays, ("part", 1), ("part", 2), ("part", 3)):
                self.assertTrue(0 <= Fraction(part[1], part[2]) <= 1, (groups, pays))

    def test_no_kind_costs_less_than_nothing(self):
        for groups, pays in many_groups(200):
            costs = [Fraction(cost[1], cost[2]) for cost in ask_last(*groups, pays, *[("costs", kind) for kind in KINDS])]
            self.assertEqual(costs[0], 0)
            self.assertTrue(min(costs) == 0 and costs[2] <= costs[3], (groups, pays))


if __name__ == "__main__":
    unittest.main()
