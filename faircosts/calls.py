"""What each call answers: a list of its numbers; a refusal is its number alone."""

from faircosts.best import gained, most_of, part_of
from faircosts.orders import FREELY, SAME_BOTH
from faircosts.people import sizes_of, somebody_lacks
from faircosts.ratios import divided, ratio, weighed, whole

BEGIN = 0

NO_SUCH = -2
NOT_BEGUN = -11
NOT_RIGHT = -22
LACKING = -33

MOST_SCORES = 4
MOST_PEOPLE = 99
MOST_PAY = 100
MOST_LOWER = 1000


def no_group(group):
    return group > 1


def no_cell(people, group, score):
    return no_group(group) or score >= people.scores


def told(fraction):
    return [0, fraction[0], fraction[1]]


def begin(people, given):
    scores = given[0]
    if scores < 1 or scores > MOST_SCORES:
        return [NOT_RIGHT]
    people.begin(scores)
    return [0]


def count(people, given):
    group = given[0]
    score = given[1]
    so = given[2]
    others = given[3]
    if no_cell(people, group, score):
        return [NO_SUCH]
    if so > MOST_PEOPLE or others > MOST_PEOPLE:
        return [NOT_RIGHT]
    people.groups[group][score] = (so, others)
    return [so + others]


def cell(people, given):
    if no_cell(people, given[0], given[1]):
        return [NO_SUCH]
    there = people.groups[given[0]][given[1]]
    return [there[0], there[1]]


def pays(people, given):
    gain = given[0]
    loss = given[1]
    if gain > MOST_PAY or loss > MOST_PAY:
        return [NOT_RIGHT]
    people.pays = (gain, loss)
    return [0]


def right_row(people, lower, row):
    """Whether there is a number from 0 to the lower one for each score."""
    return len(row) == people.scores and all([upper <= lower for upper in row])


def chances(people, given):
    group = given[0]
    lower = given[1]
    # Ahead of the row stands how many numbers it has.
    row = given[3:]
    if no_group(group):
        return [NO_SUCH]
    if lower < 1 or lower > MOST_LOWER or not right_row(people, lower, row):
        return [NOT_RIGHT]
    people.chances[group] = [ratio(upper, lower) for upper in row]
    return [0]


def gains(people, given):
    group = given[0]
    if no_group(group):
        return [NO_SUCH]
    return told(gained(people.groups[group], people.chances[group], people.pays))


def picked(people, given):
    group = given[0]
    if no_group(group):
        return [NO_SUCH]
    sizes = sizes_of(people.groups[group])
    if sum(sizes) == 0:
        return [LACKING]
    return told(divided(weighed(people.chances[group], sizes), whole(sum(sizes))))


def most(people, given):
    kind = given[0]
    if kind > SAME_BOTH:
        return [NOT_RIGHT]
    if somebody_lacks(people.groups):
        return [LACKING]
    return told(most_of(kind, people.groups, people.pays))


def part(people, given):
    kind = given[0]
    if kind == FREELY or kind > SAME_BOTH:
        return [NOT_RIGHT]
    if somebody_lacks(people.groups):
        return [LACKING]
    return told(part_of(kind, people.groups, people.pays))


# By their numbers; the calls with higher numbers are not built yet.
BUILT = (begin, count, cell, pays, chances, gains, picked, most, part)


def answer(people, number, given):
    """The numbers that a call answers; none at all, if it is not built yet."""
    if number != BEGIN and people.scores == 0:
        return [NOT_BEGUN]
    if number >= len(BUILT):
        return []
    call = BUILT[number]
    return call(people, given)
