"""Chances as the document's words make them, reckoned with Python's own fractions."""

from fractions import Fraction

from tests import oracle

ENDLESS = float("inf")


def so_for_each(cell):
    return Fraction(cell[0], cell[1]) if cell[1] else ENDLESS


def there(cells):
    return [score for score, cell in enumerate(cells) if cell != (0, 0)]


def score_by_score(order, many, x):
    """All with a score, as long as no more than x is chosen; of the next one just so large a part as makes x."""
    chances = [Fraction(0)] * len(many)
    left = x * sum(many)
    for score in order:
        if many[score] > left:
            chances[score] = left / many[score]
            return chances
        chances[score] = Fraction(1)
        left -= many[score]
    return chances


def for_a_part(cells, pays, x):
    sizes = [so + others for so, others in cells]
    gains = [pays[0] * so - pays[1] * others for so, others in cells]
    return score_by_score(sorted(there(cells), key=lambda score: (-Fraction(gains[score], sizes[score]), score)), sizes, x)


def in_order(cells):
    return sorted(there(cells), key=lambda score: (-so_for_each(cells[score]), score))


def for_so_many_right(cells, x):
    return score_by_score([score for score in in_order(cells) if cells[score][0]], [so for so, others in cells], x)


def most_for(cells, x):
    return score_by_score(in_order(cells), [others for so, others in cells], x)


def fewest_for(cells, x):
    order = sorted(there(cells), key=lambda score: (so_for_each(cells[score]), score))
    return score_by_score([score for score in order if cells[score][1]], [others for so, others in cells], x)


def right(cells, chances):
    return sum(so * chance for (so, others), chance in zip(cells, chances)) / Fraction(sum(so for so, others in cells))


def chances_for(cells, x, y):
    most, fewest = most_for(cells, x), fewest_for(cells, x)
    low, high = right(cells, fewest), right(cells, most)
    m = (y - low) / (high - low) if high != low else Fraction(0)
    return [m * one + (1 - m) * other for one, other in zip(most, fewest)]


def gained(cells, chances, pays):
    return sum(chance * (pays[0] * so - pays[1] * others) for (so, others), chance in zip(cells, chances))


def rules(kind, groups, pays):
    """Both groups' chances of the most of a kind; the best x and y come from all corners."""
    best = oracle.top(kind, groups, pays)
    if kind == 0:
        return [[Fraction(int(pays[0] * so > pays[1] * others)) for so, others in cells] for cells in groups]
    if kind == 1:
        return [for_a_part(cells, pays, -best[1]) for cells in groups]
    if kind == 2:
        return [for_so_many_right(cells, -best[1]) for cells in groups]
    return [chances_for(cells, -best[1], best[2]) for cells in groups]


def told(fractions):
    """The numbers of fractions, one behind another."""
    numbers = []
    for fraction in fractions:
        numbers.extend(Fraction(fraction).as_integer_ratio())
    return numbers
