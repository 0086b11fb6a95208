"""How many rows of one length there are, by their tallies."""

from staytallies.bounding import check_bounds
from staytallies.machines import MOST_NUMBER, check_machine, check_number

MOST_LENGTH = 12


def _longer(steps, numbers, low, high):
    """From the numbers of rows of one length those of the next length, of rows with tallies from low to high.

    Both are dicts from a stand to a dict from each tally there to the number of rows that have it.
    """
    longer = {}
    for begun, _, end, gain in steps:
        there = longer.setdefault(end, {})
        for tally, number in numbers.get(begun, {}).items():
            tally += gain
            if low <= tally <= high:
                there[tally] = there.get(tally, 0) + number
    return longer


def _numbers(machine, length, low, high):
    """A dict from each tally to the number of rows of a length that end well with it and never leave the bounds."""
    numbers = {0: {0: 1}} if low <= 0 <= high else {}
    for _ in range(length):
        numbers = _longer(machine.steps, numbers, low, high)
    found = {}
    for end in machine.ends:
        for tally, number in numbers.get(end, {}).items():
            found[tally] = found.get(tally, 0) + number
    return found


def tallies(machine, length):
    """The ascending list of the tallies of rows of this length that end well, each with the number of these rows."""
    check_machine(machine)
    check_number(length, 0, MOST_LENGTH)
    # Rows of such lengths have no tallies outside of the widest bounds.
    numbers = _numbers(machine, length, -MOST_NUMBER, MOST_NUMBER)
    return [(tally, numbers[tally]) for tally in sorted(numbers)]


def count(machine, length, tally):
    """How many rows of this length that end well have this tally."""
    check_machine(machine)
    check_number(length, 0, MOST_LENGTH)
    check_number(tally, -MOST_NUMBER, MOST_NUMBER)
    return _numbers(machine, length, -MOST_NUMBER, MOST_NUMBER).get(tally, 0)


def count_staying(machine, length, low, high):
    """How many rows of this length end well such that they and all their beginnings have tallies from low to high."""
    check_machine(machine)
    check_number(length, 0, MOST_LENGTH)
    check_bounds(low, high, MOST_NUMBER)
    return sum(_numbers(machine, length, low, high).values())
