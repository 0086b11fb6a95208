"""Machines, their rows, and the checks of values that other files need too."""

from staytallies.errors import BadEnds, BadMachine, BadRow, BadStand, BadStands, BadSteps

MOST_STANDS = 8
MOST_GAIN = 10 ** 30
LETTERS = ("a", "b", "c", "d")


class Machine:
    """Stands, the steps between them by letters, each with its gain, and the stands where rows end well."""

    def __init__(self, stands, steps, ends):
        # All checks come first, so that a call that fails leaves the object as it was.
        _check_stands(stands)
        _check_steps(stands, steps)
        _check_ends(stands, ends)
        self._stands = stands
        self._steps = steps
        self._ends = ends

    @property
    def stands(self):
        return self._stands

    @property
    def steps(self):
        return self._steps

    @property
    def ends(self):
        return self._ends

    def __eq__(self, other):
        return (isinstance(other, Machine) and self._stands == other._stands
                and self._steps == other._steps and self._ends == other._ends)


def is_integer_between(value, least, most):
    """Tells whether any value is an integer, no boolean, from least to most."""
    return isinstance(value, int) and not isinstance(value, bool) and least <= value <= most


def _is_stand(stands, value):
    return is_integer_between(value, 0, stands - 1)


def _check_stands(stands):
    if not is_integer_between(stands, 1, MOST_STANDS):
        raise BadStands("the number of stands is an integer from 1 to 8")


def _is_step(stands, value):
    if not isinstance(value, tuple) or len(value) != 4:
        return False
    begun, letter, end, gain = value
    return (_is_stand(stands, begun) and letter in LETTERS and _is_stand(stands, end)
            and is_integer_between(gain, -MOST_GAIN, MOST_GAIN))


def _check_steps(stands, steps):
    if not isinstance(steps, tuple):
        raise BadSteps(None)
    for index, step in enumerate(steps):
        if not _is_step(stands, step):
            raise BadSteps(index)
        if index > 0 and step[:2] <= steps[index - 1][:2]:
            raise BadSteps(index)


def _check_ends(stands, ends):
    if not isinstance(ends, tuple):
        raise BadEnds("the ends are a tuple")
    for index, end in enumerate(ends):
        if not _is_stand(stands, end):
            raise BadEnds("an end is a stand")
        if index > 0 and end <= ends[index - 1]:
            raise BadEnds("the ends ascend")


def check_machine(value):
    """Raises BadMachine for any value that is no machine."""
    if not isinstance(value, Machine):
        raise BadMachine("not a machine")


def check_stand(machine, value):
    """Raises BadStand for any value that is no stand of the machine."""
    if not _is_stand(machine.stands, value):
        raise BadStand("not a stand of the machine")


def _place_behind(machine, value):
    """The pair of the stand and the tally behind a row, None for any value that is no row."""
    if not isinstance(value, str):
        return None
    moves = {(begun, letter): (end, gain) for begun, letter, end, gain in machine.steps}
    stand = 0
    tally = 0
    for letter in value:
        if (stand, letter) not in moves:
            return None
        stand, gain = moves[(stand, letter)]
        tally += gain
    return (stand, tally)


def is_row(machine, value):
    """Tells of any value whether it is a row of the machine."""
    check_machine(machine)
    return _place_behind(machine, value) is not None


def behind(machine, row):
    """The pair of the stand to which a row leads, and of its tally."""
    check_machine(machine)
    place = _place_behind(machine, row)
    if place is None:
        raise BadRow("not a row of the machine")
    return place


def ends_well(machine, row):
    """Tells whether a row leads to an end."""
    stand, _ = behind(machine, row)
    return stand in machine.ends


def led_to(machine, begins):
    """The ascending list of these stands and of all to which letters lead from them."""
    found = {stand: True for stand in begins}
    waiting = list(begins)
    while waiting:
        stand = waiting.pop()
        for begun, _, end, _ in machine.steps:
            if begun == stand and end not in found:
                found[end] = True
                waiting.append(end)
    return sorted(found)


def reached(machine):
    """The ascending list of the stands to which rows lead."""
    check_machine(machine)
    return led_to(machine, [0])
