"""Bounds for the tallies of all rows: what shows that they stay there, and what bars it."""

from staytallies.errors import BadBounds
from staytallies.extremes import bounds, greatest_at, least_at
from staytallies.machines import MOST_NUMBER, check_machine, gain_of_loop, is_integer_between, way
from staytallies.ways import best_loops, best_rows, first_row_out, is_within, shortest_rows

MOST_SMALL_BOUND = 20


def check_bounds(low, high, most):
    """Raises BadBounds for any values that are no two integers low <= high from -most to most."""
    if not is_integer_between(low, -most, most) or not is_integer_between(high, low, most):
        raise BadBounds("not two integers low <= high of the range that is asked for")


def stays(machine, low, high):
    """Tells whether the tallies of all rows are from low to high."""
    check_machine(machine)
    check_bounds(low, high, MOST_NUMBER)
    return is_within(bounds(machine), low, high)


def _ring(machine):
    """A row and a loop behind it whose gains have a sum that is not 0, None if there is none."""
    leads = shortest_rows(machine.stands, machine.steps)
    for stand in leads:
        for sign in (1, -1):
            for gain, loop in best_loops(machine.stands, machine.steps, stand, sign):
                if gain > 0:
                    return ("ring", leads[stand], loop)
    return None


def _row_outside(machine, low, high):
    """A row whose tally is not from low to high, None if there is none, for a machine without such rings."""
    for sign in (1, -1):
        best = best_rows(machine.stands, machine.steps, sign)
        for stand in best:
            tally, row = best[stand]
            if not low <= sign * tally <= high:
                return ("row", row)
    return None


def bar(machine, low, high):
    """What bars that the tallies of all rows are from low to high, None if they are."""
    check_machine(machine)
    check_bounds(low, high, MOST_NUMBER)
    ring = _ring(machine)
    return _row_outside(machine, low, high) if ring is None else ring


def _bars_as_row(machine, low, high, row):
    place = way(machine, 0, row)
    return place is not None and not low <= place[1][-1] <= high


def _bars_as_ring(machine, lead, loop):
    gain = gain_of_loop(machine, lead, loop)
    return gain is not None and gain != 0


def right_bar(machine, low, high, value):
    """Tells of any value whether it bars that the tallies of all rows are from low to high."""
    check_machine(machine)
    check_bounds(low, high, MOST_NUMBER)
    if not isinstance(value, tuple):
        return False
    if len(value) == 2 and value[0] == "row":
        return _bars_as_row(machine, low, high, value[1])
    if len(value) == 3 and value[0] == "ring":
        return _bars_as_ring(machine, value[1], value[2])
    return False


def _span_at(machine, stand):
    least = least_at(machine, stand)
    return None if least is None else (least, greatest_at(machine, stand))


def paper(machine, low, high):
    """A tuple of a span for each stand that shows that the tallies of all rows stay, None if they do not."""
    if not stays(machine, low, high):
        return None
    return tuple([_span_at(machine, stand) for stand in range(machine.stands)])


def _is_span(value, low, high):
    if not isinstance(value, tuple) or len(value) != 2:
        return False
    least, most = value
    return is_integer_between(least, low, high) and is_integer_between(most, least, high)


def _covers(span, least, most):
    return span is not None and span[0] <= least and most <= span[1]


def _leads_on(spans, step):
    """Tells whether the span at the begin of a step, if there is one, leads into the span at its end."""
    begun, _, end, gain = step
    if spans[begun] is None:
        return True
    least, most = spans[begun]
    return _covers(spans[end], least + gain, most + gain)


def right_paper(machine, low, high, value):
    """Tells of any value whether it is a paper for these bounds."""
    check_machine(machine)
    check_bounds(low, high, MOST_NUMBER)
    if not isinstance(value, tuple) or len(value) != machine.stands:
        return False
    if not all([span is None or _is_span(span, low, high) for span in value]):
        return False
    return _covers(value[0], 0, 0) and all([_leads_on(value, step) for step in machine.steps])


def _moves_from(machine, stand, tally, low, high):
    """The letters from a stand and a tally, each with the stand and the tally behind it, None if these leave."""
    moves = []
    for begun, letter, end, gain in machine.steps:
        if begun == stand:
            moves.append((letter, (end, tally + gain) if low <= tally + gain <= high else None))
    return moves


def first_leaving(machine, low, high):
    """The shortest row, of these the least, whose tally is not from low to high, None if there is none."""
    check_machine(machine)
    check_bounds(low, high, MOST_SMALL_BOUND)
    if not low <= 0 <= high:
        return ""
    moves = {
        (stand, tally): _moves_from(machine, stand, tally, low, high)
        for stand in range(machine.stands)
        for tally in range(low, high + 1)
    }
    return first_row_out(moves, (0, 0))
