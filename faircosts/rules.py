"""The chances by which the most of each kind is gained, and whether chances meet a kind."""

from faircosts.best import best_x, right_in_both
from faircosts.orders import FREELY, SAME_BOTH, SAME_RIGHT, chances_for, fewest_for, runs_for
from faircosts.people import gains_of, so_of
from faircosts.ratios import ONE, ZERO, divided, mean, minus, plus, times


def freely_chosen(cells, pays):
    return [ONE if gain > 0 else ZERO for gain in gains_of(cells, pays)]


def share_of_most(most, fewest, so, y):
    """By how much the most's chances must count beside the fewest's, so that they make y."""
    low = mean(fewest, so)
    room = minus(mean(most, so), low)
    if room == ZERO:
        return ZERO
    return divided(minus(y, low), room)


def chances_reaching(cells, pays, x, y):
    """The chances for x and y in a group where both can be reached."""
    most = chances_for(SAME_BOTH, cells, pays, x)
    fewest = fewest_for(cells, x)
    share = share_of_most(most, fewest, so_of(cells), y)
    rest = minus(ONE, share)
    return [plus(times(high, share), times(low, rest)) for high, low in zip(most, fewest)]


def rules_of(kind, groups, pays):
    """The chances of the most of a kind, for each group."""
    if kind == FREELY:
        return [freely_chosen(cells, pays) for cells in groups]
    x = best_x(kind, groups, pays)
    if kind != SAME_BOTH:
        return [chances_for(kind, cells, pays, x) for cells in groups]
    y = right_in_both(groups, pays, x)
    return [chances_reaching(cells, pays, x, y) for cells in groups]


def alike(kind, groups, chances):
    """Whether as large a part of each group is chosen, of those by whom the kind's x is measured."""
    return mean(chances[0], runs_for(kind, groups[0])) == mean(chances[1], runs_for(kind, groups[1]))


def met(kind, groups, chances):
    """Whether the groups' chances meet a kind."""
    if kind == FREELY:
        return True
    if kind == SAME_BOTH:
        # Measured alone, this kind tells of those who turned out not so.
        return alike(SAME_RIGHT, groups, chances) and alike(SAME_BOTH, groups, chances)
    return alike(kind, groups, chances)
