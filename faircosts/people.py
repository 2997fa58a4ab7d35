"""What one line of calls knows: people of two groups, their chances, the pays."""

from faircosts.ratios import ZERO


class People:
    """A cell (so, others) and a chance for each score of each group; without scores nothing has begun."""

    def __init__(self):
        self.begin(0)

    def begin(self, scores):
        self.scores = scores
        self.groups = [[(0, 0) for score in range(scores)], [(0, 0) for score in range(scores)]]
        self.chances = [[ZERO for score in range(scores)], [ZERO for score in range(scores)]]
        self.pays = (1, 1)


def so_of(cells):
    """For each score, how many turned out so."""
    return [cell[0] for cell in cells]


def others_of(cells):
    """For each score, how many turned out not so."""
    return [cell[1] for cell in cells]


def sizes_of(cells):
    """For each score, how many there are."""
    return [cell[0] + cell[1] for cell in cells]


def gains_of(cells, pays):
    """For each score, what choosing all with it gains."""
    return [pays[0] * cell[0] - pays[1] * cell[1] for cell in cells]


def somebody_lacks(groups):
    """Whether some group has nobody who turned out so, or nobody who turned out not so."""
    for cells in groups:
        if sum(so_of(cells)) == 0 or sum(others_of(cells)) == 0:
            return True
    return False
