"""Groups and pays that more than one file of tests asks about."""

TOP = 4294967295
# The mosts: group 0 by (0, 0), (1/5, 4/5), (1, 1), group 1 by (0, 1/2), (1, 1); they cross at (1/7, 4/7).
CROSS = ([(8, 2), (2, 8)], [(5, 0), (5, 10)])


class Numbers:
    """A row of numbers that is the same each time."""

    def __init__(self):
        self.now = 12345

    def below(self, top):
        self.now = (self.now * 1103515245 + 12345) % 2147483648
        return (self.now >> 12) % top

    def cells(self, scores, top):
        found = []
        for _ in range(scores):
            so, others = self.below(top + 1), self.below(top + 1)
            shape = self.below(8)
            found.append(((0, 0), (0, others), (so, 0))[shape] if shape < 3 else (so, others))
        return found

    def groups(self, scores, top):
        while True:
            groups = self.cells(scores, top), self.cells(scores, top)
            if all(sum(cell[side] for cell in cells) > 0 for cells in groups for side in (0, 1)):
                return groups

    def many_groups(self, many):
        """Groups of each number of scores, small and large, with pays."""
        for case in range(many):
            yield self.groups(1 + case % 4, (2, 4, 20, 99)[case // 4 % 4]), self.pays()

    def pays(self):
        return ((0, 0), (0, 3), (4, 0), (1, 1), (3, 2), (self.below(101), self.below(101)))[self.below(6)]
