"""What must be there at first so that rows never lead below nought."""

from staytallies.extremes import bounds
from staytallies.machines import check_machine, gain_of_loop, is_integer_between, way
from staytallies.ways import longer_rows


def needed(machine):
    """The least integer from 0 on that is with each tally not below 0, None if there is none."""
    check_machine(machine)
    least, _ = bounds(machine)
    return None if least is None else -least


def _loop_above(machine, stand):
    """A loop at a stand with no beginning whose gains have a sum below 0, None if there is none."""
    rows = {stand: (0, "")}
    for _ in range(machine.stands):
        longer = longer_rows(machine.steps, 1, rows)
        rows = {end: longer[end] for end in longer if longer[end][0] >= 0}
        if stand in rows:
            return rows[stand][1]
    return None


def _led_back(machine, ways):
    """The same ways, and those that begin one step ahead of them where they need less."""
    better = {stand: ways[stand] for stand in ways}
    for begun, letter, end, gain in machine.steps:
        if end in ways:
            need, lead, loop = ways[end]
            need = max(0, need - gain)
            if begun not in better or need < better[begun][0]:
                better[begun] = (need, letter + lead, loop)
    return better


def _lasting_ways(machine):
    """A dict from each stand with endless ways to the triple of what they need, and the lead and loop of one."""
    # Each loop that loses nothing has a stand from where it needs nothing, so leads to these stands
    # are enough. Of the leads simple ones are: a ring on the way that gains is a loop of its own.
    ways = {}
    for stand in range(machine.stands):
        loop = _loop_above(machine, stand)
        if loop is not None:
            ways[stand] = (0, "", loop)
    for _ in range(machine.stands):
        ways = _led_back(machine, ways)
    return ways


def lasting(machine):
    """The tuple of credit, and of a row and a loop behind it for which it is enough, None if there are none."""
    check_machine(machine)
    ways = _lasting_ways(machine)
    return ways[0] if 0 in ways else None


def credit(machine):
    """The least integer that is with each tally of a row and of a loop without end not below 0, or None."""
    check_machine(machine)
    found = lasting(machine)
    return None if found is None else found[0]


def right_lasting(machine, value):
    """Tells of any value whether it is a tuple as lasting tells it."""
    check_machine(machine)
    if not isinstance(value, tuple) or len(value) != 3:
        return False
    many, lead, loop = value
    gain = gain_of_loop(machine, lead, loop)
    if gain is None or gain < 0:
        return False
    # There is a credit, for there is a loop that loses nothing.
    least = credit(machine)
    _, sums = way(machine, 0, lead + loop)
    return is_integer_between(many, least, least) and many + min(sums) >= 0
