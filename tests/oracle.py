"""Another way to the most of each kind: of all chances that meet it, the corners are gone through one by one.

Chances that meet a kind are bounded by one linear equation (kinds 1 and 2) or two (kind 3), so at a corner all
but one, or two, of the chances are 0 or 1. What gains most, and the least x among what gains most, are at corners.
"""

from fractions import Fraction
from itertools import combinations, product


def part_row(groups, column):
    """How much each chance adds to group 0's part, less what it adds to group 1's."""
    row = []
    for sign, cells in ((1, groups[0]), (-1, groups[1])):
        total = sum(column(cell) for cell in cells)
        row.extend(Fraction(sign * column(cell), total) for cell in cells)
    return row


def rows_of(kind, groups):
    size = part_row(groups, lambda cell: cell[0] + cell[1])
    so = part_row(groups, lambda cell: cell[0])
    others = part_row(groups, lambda cell: cell[1])
    return {0: [], 1: [size], 2: [so], 3: [others, so]}[kind]


def dot(row, chances):
    return sum(weight * chance for weight, chance in zip(row, chances))


def solved(rows, free, chances):
    """Values for the free chances that meet all rows, or None if there are none, or no single ones."""
    rests = [-dot(row, chances) for row in rows]
    if not free:
        return []
    if len(free) == 1:
        for row, rest in zip(rows, rests):
            if row[free[0]] != 0:
                return [rest / row[free[0]]]
        return None
    a, b = rows[0][free[0]], rows[0][free[1]]
    c, d = rows[1][free[0]], rows[1][free[1]]
    across = a * d - b * c
    if across == 0:
        return None
    return [(rests[0] * d - b * rests[1]) / across, (a * rests[1] - rests[0] * c) / across]


def corners(kind, groups):
    rows = rows_of(kind, groups)
    width = len(groups[0]) + len(groups[1])
    people = list(groups[0]) + list(groups[1])
    # Nothing hangs on the chance of a score without people.
    there = [place for place in range(width) if people[place] != (0, 0)]
    for many in range(len(rows) + 1):
        for free in combinations(there, many):
            fixed = [place for place in there if place not in free]
            for bounds in product((0, 1), repeat=len(fixed)):
                chances = [Fraction(0)] * width
                for place, bound in zip(fixed, bounds):
                    chances[place] = Fraction(bound)
                values = solved(rows, free, chances)
                if values is None or any(value < 0 or value > 1 for value in values):
                    continue
                for place, value in zip(free, values):
                    chances[place] = value
                if all(dot(row, chances) == 0 for row in rows):
                    yield chances


def gain_row(groups, pays):
    return [pays[0] * so - pays[1] * others for cells in groups for so, others in cells]


def part_in_first(groups, chances, column):
    """The part of group 0 that is chosen; chances that meet a kind choose the same of group 1."""
    cells = groups[0]
    return Fraction(sum(column(cell) * chance for cell, chance in zip(cells, chances))) / sum(map(column, cells))


def top(kind, groups, pays):
    """What is gained at most by a kind, then of kinds 1 and 2 -x, of kind 3 -x and y."""
    gains = gain_row(groups, pays)
    found = []
    for chances in corners(kind, groups):
        gain = dot(gains, chances)
        size = part_in_first(groups, chances, lambda cell: cell[0] + cell[1])
        so = part_in_first(groups, chances, lambda cell: cell[0])
        others = part_in_first(groups, chances, lambda cell: cell[1])
        # The most gain, then the least x; for kind 3 then the most y.
        found.append({0: (gain,), 1: (gain, -size), 2: (gain, -so), 3: (gain, -others, so)}[kind])
    return max(found)


def best(kind, groups, pays):
    """What is gained at most by a kind, and the part that is told of it (None for kind 0)."""
    found = top(kind, groups, pays)
    if kind == 0:
        return found[0], None
    return found[0], found[2] if kind == 3 else -found[1]
