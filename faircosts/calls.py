"""What each call answers: a list of its numbers; a refusal is its number alone."""

from faircosts.best import gained, most_of, part_of
from faircosts.orders import FREELY, SAME_BOTH, SAME_PART, SAME_RIGHT, chances_for
from faircosts.people import sizes_of, somebody_lacks
from faircosts.ratios import mean, minus, ratio
from faircosts.rules import met, rules_of

BEGIN = 0

NO_SUCH = -2
NOT_BEGUN = -11
NOT_RIGHT = -22
LACKING = -33

MOST_SCORES = 4
MOST_PEOPLE = 99
MOST_PAY = 100
MOST_LOWER = 1000


def no_group(group):
    return group > 1


def no_cell(people, group, score):
    return no_group(group) or score >= people.scores


def no_kind(kind):
    return kind > SAME_BOTH


def no_pays(gain, loss):
    return gain > MOST_PAY or loss > MOST_PAY


def no_lower(lower):
    return lower < 1 or lower > MOST_LOWER


def told(fraction):
    return [0, fraction[0], fraction[1]]


def row_of(fractions):
    """The numbers of all the fractions, one behind another."""
    row = []
    for fraction in fractions:
        row.extend([fraction[0], fraction[1]])
    return row


def begin(people, given):
    scores = given[0]
    if scores < 1 or scores > MOST_SCORES:
        return [NOT_RIGHT]
    people.begin(scores)
    return [0]


def count(people, given):
    group = given[0]
    score = given[1]
    so = given[2]
    others = given[3]
    if no_cell(people, group, score):
        return [NO_SUCH]
    if so > MOST_PEOPLE or others > MOST_PEOPLE:
        return [NOT_RIGHT]
    people.groups[group][score] = (so, others)
    return [so + others]


def cell(people, given):
    if no_cell(people, given[0], given[1]):
        return [NO_SUCH]
    there = people.groups[given[0]][given[1]]
    return [there[0], there[1]]


def pays(people, given):
    if no_pays(given[0], given[1]):
        return [NOT_RIGHT]
    people.pays = (given[0], given[1])
    return [0]


def right_row(people, lower, row):
    """Whether there is a number from 0 to the lower one for each score."""
    return len(row) == people.scores and all([upper <= lower for upper in row])


def chances(people, given):
    group = given[0]
    lower = given[1]
    # Ahead of the row stands how many numbers it has.
    row = given[3:]
    if no_group(group):
        return [NO_SUCH]
    if no_lower(lower) or not right_row(people, lower, row):
        return [NOT_RIGHT]
    people.chances[group] = [ratio(upper, lower) for upper in row]
    return [0]


def gains(people, given):
    group = given[0]
    if no_group(group):
        return [NO_SUCH]
    return told(gained(people.groups[group], people.chances[group], people.pays))


def picked(people, given):
    group = given[0]
    if no_group(group):
        return [NO_SUCH]
    sizes = sizes_of(people.groups[group])
    if sum(sizes) == 0:
        return [LACKING]
    return told(mean(people.chances[group], sizes))


def refusal(people, wrong):
    """What refuses a call that asks about kinds, none if nothing does; that somebody is lacking comes last."""
    if wrong:
        return [NOT_RIGHT]
    if somebody_lacks(people.groups):
        return [LACKING]
    return []


def most(people, given):
    kind = given[0]
    refused = refusal(people, no_kind(kind))
    if refused != []:
        return refused
    return told(most_of(kind, people.groups, people.pays))


def part(people, given):
    kind = given[0]
    refused = refusal(people, kind == FREELY or no_kind(kind))
    if refused != []:
        return refused
    return told(part_of(kind, people.groups, people.pays))


def costs(people, given):
    kind = given[0]
    refused = refusal(people, no_kind(kind))
    if refused != []:
        return refused
    freely = most_of(FREELY, people.groups, people.pays)
    return told(minus(freely, most_of(kind, people.groups, people.pays)))


def rule(people, given):
    kind = given[0]
    group = given[1]
    if no_group(group):
        return [NO_SUCH]
    refused = refusal(people, no_kind(kind))
    if refused != []:
        return refused
    rules = rules_of(kind, people.groups, people.pays)
    return [people.scores] + row_of(rules[group])


def take(people, given):
    kind = given[0]
    refused = refusal(people, no_kind(kind))
    if refused != []:
        return refused
    people.chances = rules_of(kind, people.groups, people.pays)
    return [0]


def meets(people, given):
    kind = given[0]
    refused = refusal(people, no_kind(kind))
    if refused != []:
        return refused
    return [1 if met(kind, people.groups, people.chances) else 0]


def gained_for(people, given, kind):
    """What a group gains when a part of it, as a kind measures parts, is chosen in the kind's order."""
    group = given[0]
    upper = given[1]
    lower = given[2]
    if no_group(group):
        return [NO_SUCH]
    refused = refusal(people, no_lower(lower) or upper > lower)
    if refused != []:
        return refused
    cells = people.groups[group]
    return told(gained(cells, chances_for(kind, cells, people.pays, ratio(upper, lower)), people.pays))


def forpart(people, given):
    return gained_for(people, given, SAME_PART)


def forhits(people, given):
    return gained_for(people, given, SAME_RIGHT)


def ifpays(people, given):
    kind = given[0]
    refused = refusal(people, no_kind(kind) or no_pays(given[1], given[2]))
    if refused != []:
        return refused
    return told(most_of(kind, people.groups, (given[1], given[2])))


def state(people, given):
    known = [people.scores, people.pays[0], people.pays[1]]
    return known + row_of(people.chances[0]) + row_of(people.chances[1])


# By their numbers.
CALLS = (begin, count, cell, pays, chances, gains, picked, most, part, costs, rule, take, meets, forpart, forhits,
         ifpays, state)


def answer(people, number, given):
    """The numbers that a call answers."""
    if number != BEGIN and people.scores == 0:
        return [NOT_BEGUN]
    call = CALLS[number]
    return call(people, given)
