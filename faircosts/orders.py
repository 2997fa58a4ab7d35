"""Scores in their orders, and the chances that choose a part of a group score by score."""

from faircosts.people import gains_of, others_of, sizes_of, so_of
from faircosts.ratios import ONE, ZERO, divided, less, minus, times, whole

FREELY = 0
SAME_PART = 1
SAME_RIGHT = 2
SAME_BOTH = 3


def place_in(order, score, runs, rises):
    """Where a score belongs in an order of lesser scores: behind those that are steeper, or like it."""
    place = 0
    # Multiplied crosswise, a run of 0 comes ahead of all without being divided by.
    while place < len(order) and rises[score] * runs[order[place]] <= rises[order[place]] * runs[score]:
        place += 1
    return place


def steepest_first(cells, runs, rises):
    """The scores with somebody, by the rise for each of the run, the most first; of like ones the lesser."""
    order = []
    for score in range(len(cells)):
        if cells[score] != (0, 0):
            order.insert(place_in(order, score, runs, rises), score)
    return order


def order_for(kind, cells, pays):
    """In which order a group's scores are chosen for a part, for so many right, or as the most for x."""
    if kind == SAME_PART:
        return steepest_first(cells, sizes_of(cells), gains_of(cells, pays))
    order = steepest_first(cells, others_of(cells), so_of(cells))
    if kind == SAME_RIGHT:
        return [score for score in order if cells[score][0] > 0]
    return order


def runs_for(kind, cells):
    """By how many of each score a part is measured: all of them, those who turned out so, or not so."""
    if kind == SAME_PART:
        return sizes_of(cells)
    if kind == SAME_RIGHT:
        return so_of(cells)
    return others_of(cells)


def taken(order, runs, x):
    """For each score its chance, when a part x of all the runs is chosen in this order."""
    chances = [ZERO for run in runs]
    left = times(x, whole(sum(runs)))
    for score in order:
        run = whole(runs[score])
        if less(left, run):
            chances[score] = divided(left, run)
            break
        chances[score] = ONE
        left = minus(left, run)
    return chances


def chances_for(kind, cells, pays, x):
    return taken(order_for(kind, cells, pays), runs_for(kind, cells), x)


def fewest_for(cells, x):
    """The chances of the fewest for x."""
    # Turned round, the order for the most would begin with the greater of like scores; this one does with the lesser.
    order = steepest_first(cells, so_of(cells), others_of(cells))
    return taken([score for score in order if cells[score][1] > 0], others_of(cells), x)


def stops_for(kind, cells, pays):
    """How many of the run are chosen once none, one, two .. of the scores are, in their order."""
    runs = runs_for(kind, cells)
    stops = [0]
    for score in order_for(kind, cells, pays):
        stops.append(stops[-1] + runs[score])
    return stops
