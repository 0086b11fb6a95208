"""The fewest steps that must add otherwise so that the tallies of all rows get bounds."""

from itertools import combinations

from staytallies.errors import BadSet, TooMany
from staytallies.machines import check_machine, is_ascending, reached
from staytallies.ways import led_to

MOST_STEPS = 12


def _check_steps(machine):
    if len(machine.steps) > MOST_STEPS:
        raise TooMany(MOST_STEPS)


def _places_on_loops(machine):
    """The places of the steps that are part of loops behind rows: no others run off."""
    stands = reached(machine)
    return [
        place for place, (begun, _, end, _) in enumerate(machine.steps)
        if begun in stands and begun in led_to(machine.steps, [end])
    ]


def _spread(numbers, steps):
    """Adds the numbers of all stands that steps join, forwards or backwards, to stands with a number."""
    # Each round numbers one more stand at least, if there is one, and there are no more such than steps.
    for _ in range(len(steps)):
        for begun, _, end, gain in steps:
            if begun in numbers:
                numbers.setdefault(end, numbers[begun] + gain)
            elif end in numbers:
                numbers[begun] = numbers[end] - gain


def _numbers(many, steps):
    """Numbers on so many stands such that each step gains what its end has above its begin, None if none do."""
    numbers = {}
    for stand in range(many):
        if stand not in numbers:
            numbers[stand] = 0
            _spread(numbers, steps)
    return numbers if all([numbers[end] - numbers[begun] == gain for begun, _, end, gain in steps]) else None


def _numbers_without(machine, places, some):
    """Numbers on the stands that fit the steps at places on loops, but for those of some, None if none do."""
    # The steps on loops join only stands that lead to each other. So all loops have the sum 0 just if
    # there are such numbers, and the steps of some can gain what fits them.
    return _numbers(machine.stands, [machine.steps[place] for place in places if place not in some])


def _sets_that_mend(machine, places, many):
    """The ascending list of the tuples of so many of these places on loops that are enough to be mended."""
    return [some for some in combinations(places, many) if _numbers_without(machine, places, some) is not None]


def mends(machine):
    """The ascending list of the smallest tuples of places of steps that must add otherwise for there to be bounds."""
    check_machine(machine)
    _check_steps(machine)
    places = _places_on_loops(machine)
    for many in range(len(places)):
        found = _sets_that_mend(machine, places, many)
        if found:
            return found
    return [tuple(places)]


def mended(machine, some):
    """The steps, those of some with gains by which the tallies have bounds, None if there are no such gains."""
    check_machine(machine)
    _check_steps(machine)
    if not is_ascending(some, len(machine.steps)):
        raise BadSet("not an ascending tuple of unlike places of steps")
    numbers = _numbers_without(machine, _places_on_loops(machine), some)
    if numbers is None:
        return None
    return tuple([
        (begun, letter, end, numbers[end] - numbers[begun] if place in some else gain)
        for place, (begun, letter, end, gain) in enumerate(machine.steps)
    ])
