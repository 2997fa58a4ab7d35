"""How tests ask: calls by their names, answers as one list for each call."""

from faircosts.kinds import answers

NAMES = ("begin", "count", "cell", "pays", "chances", "gains", "picked", "most", "part", "costs", "rule",
         "take", "meets", "forpart", "forhits", "ifpays", "state")


def flat(calls):
    """The one list of numbers for calls such as ("count", 0, 1, 5, 2) or ("chances", 0, 10, [1, 2])."""
    numbers = []
    for call in calls:
        numbers.append(NAMES.index(call[0]))
        for argument in call[1:]:
            if isinstance(argument, list):
                numbers.append(len(argument))
                numbers.extend(argument)
            else:
                numbers.append(argument)
    return numbers


def split(said):
    told = []
    at = 0
    while at < len(said):
        end = at + 1 + said[at]
        assert end <= len(said), said
        told.append(said[at + 1:end])
        at = end
    return told


def ask(*calls):
    told = split(answers(flat(calls)))
    assert len(told) == len(calls), told
    return told


def counts(first, second):
    """The calls that begin with these cells of both groups, (so, not so) for each score."""
    calls = [("begin", len(first))]
    for group, cells in enumerate((first, second)):
        for score, cell in enumerate(cells):
            calls.append(("count", group, score) + cell)
    return calls


def ask_last(first, second, pays, *calls):
    """What calls are answered, with these cells and pays."""
    told = ask(*counts(first, second), ("pays",) + pays, *calls)
    return told[-len(calls):]
