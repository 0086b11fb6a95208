"""Machines, their rows, and the checks of values that other files need too."""

from staytallies.errors import BadEnds, BadMachine, BadNumber, BadRow, BadStand, BadStands, BadSteps
from staytallies.ways import led_to

MOST_STANDS = 8
MOST_GAIN = 10 ** 30
MOST_NUMBER = 10 ** 40
LETTERS = ("a", "b", "c", "d")


class Machine:
    """Stands, the steps between them by letters, each with its gain, and the stands where rows end well."""

    def __init__(self, stands, steps, ends):
        # All checks come first, so that a call that fails leaves the object as it was.
        _check_stands(stands)
        _check_steps(stands, steps)
        _check_ends(stands, ends)
        self._stands = stands
        self._steps = steps
        self._ends = ends

    @property
    def stands(self):
        return self._stands

    @property
    def steps(self):
        return self._steps

    @property
    def ends(self):
        return self._ends

    def __eq__(self, other):
        return (isinstance(other, Machine) and self._stands == other._stands
                and self._steps == other._steps and self._ends == other._ends)


def is_whole_number(value):
    """Tells whether any value is an integer, no boolean."""
    return isinstance(value, int) and not isinstance(value, bool)


def is_integer_between(value, least, most):
    """Tells whether any value is an integer, no boolean, from least to most."""
    return is_whole_number(value) and least <= value <= most


def _is_stand(stands, value):
    return is_integer_between(value, 0, stands - 1)


def _check_stands(stands):
    if not is_integer_between(stands, 1, MOST_STANDS):
        raise BadStands("the number of stands is an integer from 1 to 8")


def _is_step(stands, value):
    if not isinstance(value, tuple) or len(value) != 4:
        return False
    begun, letter, end, gain = value
    return (_is_stand(stands, begun) and letter in LETTERS and _is_stand(stands, end)
            and is_integer_between(gain, -MOST_GAIN, MOST_GAIN))


def _check_steps(stands, steps):
    if not isinstance(steps, tuple):
        raise BadSteps(None)
    for index, step in enumerate(steps):
        if not _is_step(stands, step):
            raise BadSteps(index)
        if index > 0 and step[:2] <= steps[index - 1][:2]:
            raise BadSteps(index)


def is_ascending(value, many):
    """Tells of any value whether it is an ascending tuple of unlike integers from 0 to below many."""
    if not isinstance(value, tuple):
        return False
    least = 0
    for number in value:
        if not is_integer_between(number, least, many - 1):
            return False
        least = number + 1
    return True


def _check_ends(stands, ends):
    if not is_ascending(ends, stands):
        raise BadEnds("the ends are an ascending tuple of unlike stands")


def check_machine(value):
    """Raises BadMachine for any value that is no machine."""
    if not isinstance(value, Machine):
        raise BadMachine("not a machine")


def check_stand(machine, value):
    """Raises BadStand for any value that is no stand of the machine."""
    if not _is_stand(machine.stands, value):
        raise BadStand("not a stand of the machine")


def check_number(value, least, most):
    """Raises BadNumber for any value that is no integer from least to most."""
    if not is_integer_between(value, least, most):
        raise BadNumber(value)


def moves_of(machine):
    """A dict from the pair of a stand and a letter to the pair of the end and the gain of their step."""
    return {(begun, letter): (end, gain) for begun, letter, end, gain in machine.steps}


def way(machine, stand, value):
    """The pair of the stand to which letters lead from a stand, and of the list of the sums on the way.

    The sums are those of the gains of all beginnings, from 0 on. None for any value that is no such letters.
    """
    if not isinstance(value, str):
        return None
    moves = moves_of(machine)
    sums = [0]
    for letter in value:
        if (stand, letter) not in moves:
            return None
        stand, gain = moves[(stand, letter)]
        sums.append(sums[-1] + gain)
    return (stand, sums)


def gain_of_loop(machine, lead, loop):
    """The sum of the gains of a loop behind a row, None for any values that are no row and no loop behind it."""
    place = way(machine, 0, lead)
    if place is None:
        return None
    back = way(machine, place[0], loop)
    if back is None or back[0] != place[0] or loop == "":
        return None
    return back[1][-1]


def is_row(machine, value):
    """Tells of any value whether it is a row of the machine."""
    check_machine(machine)
    return way(machine, 0, value) is not None


def behind(machine, row):
    """The pair of the stand to which a row leads, and of its tally."""
    check_machine(machine)
    place = way(machine, 0, row)
    if place is None:
        raise BadRow("not a row of the machine")
    stand, sums = place
    return (stand, sums[-1])


def ends_well(machine, row):
    """Tells whether a row leads to an end."""
    stand, _ = behind(machine, row)
    return stand in machine.ends


def reached(machine):
    """The ascending list of the stands to which rows lead."""
    check_machine(machine)
    return led_to(machine.steps, [0])
