"""The most of each kind of fairness: the x that gains most, and what it gains."""

from faircosts.orders import FREELY, SAME_BOTH, chances_for, stops_for
from faircosts.people import gains_of, others_of, so_of
from faircosts.ratios import divided, less, mean, minus, plus, ratio, times, unsigned, weighed, whole


def marks_for(kind, groups, pays):
    """Each x at which a score is used up in some group, the least first."""
    first = stops_for(kind, groups[0], pays)
    second = stops_for(kind, groups[1], pays)
    # Measured by one lower number, the marks are put in order as whole numbers.
    uppers = [stop * second[-1] for stop in first] + [stop * first[-1] for stop in second]
    return [ratio(upper, first[-1] * second[-1]) for upper in sorted(set(uppers))]


def most_right(cells, pays, x):
    """The y of the most for x in a group."""
    return mean(chances_for(SAME_BOTH, cells, pays, x), so_of(cells))


def right_in_both(groups, pays, x):
    """The lesser of both groups' mosts for x."""
    first = most_right(groups[0], pays, x)
    second = most_right(groups[1], pays, x)
    return second if less(second, first) else first


def lead(groups, pays, x):
    """How much more the first group's most for x is than the second's."""
    return minus(most_right(groups[0], pays, x), most_right(groups[1], pays, x))


def crossings(groups, pays, left, right):
    """The x where the groups' mosts cross, if they do, between marks that follow one another."""
    before = lead(groups, pays, left)
    behind = lead(groups, pays, right)
    if before[0] * behind[0] >= 0:
        return []
    share = divided(unsigned(before), plus(unsigned(before), unsigned(behind)))
    return [plus(left, times(share, minus(right, left)))]


def candidates(kind, groups, pays):
    """The x among which the best is, the least first: between two of them the gain is one straight line."""
    marks = marks_for(kind, groups, pays)
    if kind != SAME_BOTH:
        return marks
    found = [marks[0]]
    for place in range(1, len(marks)):
        found.extend(crossings(groups, pays, marks[place - 1], marks[place]))
        found.append(marks[place])
    return found


def worth(groups, pays, x, y):
    """What x and y for both groups alike are worth, which is what chances for them gain."""
    so = sum(so_of(groups[0])) + sum(so_of(groups[1]))
    others = sum(others_of(groups[0])) + sum(others_of(groups[1]))
    return minus(times(whole(pays[0] * so), y), times(whole(pays[1] * others), x))


def gained(cells, chances, pays):
    """What chances gain in a group."""
    return weighed(chances, gains_of(cells, pays))


def gained_at(kind, groups, pays, x):
    """What both groups gain by the x of a kind."""
    if kind == SAME_BOTH:
        return worth(groups, pays, x, right_in_both(groups, pays, x))
    first = gained(groups[0], chances_for(kind, groups[0], pays, x), pays)
    second = gained(groups[1], chances_for(kind, groups[1], pays, x), pays)
    return plus(first, second)


def gained_freely(groups, pays):
    gains = gains_of(groups[0], pays) + gains_of(groups[1], pays)
    return whole(sum([gain for gain in gains if gain > 0]))


def best_x(kind, groups, pays):
    """The x of a kind but 0 by which both groups gain most; of like ones the least."""
    marks = candidates(kind, groups, pays)
    best = marks[0]
    most = gained_at(kind, groups, pays, best)
    for mark in marks:
        gain = gained_at(kind, groups, pays, mark)
        if less(most, gain):
            best = mark
            most = gain
    return best


def most_of(kind, groups, pays):
    """What both groups gain by the most of a kind."""
    if kind == FREELY:
        return gained_freely(groups, pays)
    return gained_at(kind, groups, pays, best_x(kind, groups, pays))


def part_of(kind, groups, pays):
    """The x of kind 1 and of kind 2, the y of kind 3."""
    x = best_x(kind, groups, pays)
    if kind == SAME_BOTH:
        return right_in_both(groups, pays, x)
    return x
