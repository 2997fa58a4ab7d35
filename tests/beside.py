"""Many groups to hold the program's answers beside another way to reckon them."""

from itertools import product

from tests.crowds import Numbers


class Beside:
    """Tests for a test case that has check(first, second, pays)."""

    def check_many(self, scores, many):
        numbers = Numbers()
        for case in range(many):
            first, second = numbers.groups(scores, (2, 4, 9, 99)[case % 4])
            self.check(first, second, numbers.pays())

    def test_one_score(self):
        self.check_many(1, 100)

    def test_two_scores(self):
        self.check_many(2, 300)

    def test_three_scores(self):
        self.check_many(3, 140)

    def test_four_scores(self):
        self.check_many(4, 24)

    def test_all_small_groups_of_two_scores(self):
        cells = list(product(range(2), repeat=2))
        groups = [list(pair) for pair in product(cells, repeat=2) if all(map(any, zip(*pair)))]
        for first, second in product(groups, repeat=2):
            for pays in ((1, 1), (2, 1), (0, 1), (1, 0)):
                self.check(first, second, pays)
