"""The interface: a list of calls on one new object is read, and each call answered."""

from faircosts.calls import answer
from faircosts.people import People

CHANCES = 4

# By a call's number, how many whole numbers stand behind it; a row comes behind these.
WHOLE_NUMBERS = (1, 4, 2, 2, 2, 1, 1, 1, 1, 1, 2, 1, 1, 3, 3, 3, 0)


def end_of(calls, at):
    """Where the call ends that begins at a place; of all calls chances alone has a row."""
    end = at + 1 + WHOLE_NUMBERS[calls[at]]
    if calls[at] == CHANCES:
        end = end + 1 + calls[end]
    return end


def answers(calls):
    """For each call, in order, how many numbers are answered, and these."""
    people = People()
    said = []
    at = 0
    while at < len(calls):
        end = end_of(calls, at)
        numbers = answer(people, calls[at], calls[at + 1:end])
        said.append(len(numbers))
        said.extend(numbers)
        at = end
    return said
