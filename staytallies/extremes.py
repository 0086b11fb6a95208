"""The least and the greatest tallies, and the least of the shortest rows that have them."""

from staytallies.machines import check_machine, check_stand, reached
from staytallies.ways import ENDLESS, best_rows, least_and_greatest


def _tally_at(machine, stand, sign):
    check_machine(machine)
    check_stand(machine, stand)
    best = best_rows(machine.stands, machine.steps, sign)
    if stand not in best:
        return None
    tally = best[stand][0]
    return ENDLESS if tally == ENDLESS else sign * tally


def _row_at(machine, stand, sign):
    check_machine(machine)
    check_stand(machine, stand)
    best = best_rows(machine.stands, machine.steps, sign)
    return best[stand][1] if stand in best else None


def greatest_at(machine, stand):
    """The greatest tally of all rows to a stand, "endless" if there is none, None without a row."""
    return _tally_at(machine, stand, 1)


def least_at(machine, stand):
    """The least tally of all rows to a stand, "endless" if there is none, None without a row."""
    return _tally_at(machine, stand, -1)


def greatest_row(machine, stand):
    """The least of the shortest rows to a stand with its greatest tally, None if there is none."""
    return _row_at(machine, stand, 1)


def least_row(machine, stand):
    """The least of the shortest rows to a stand with its least tally, None if there is none."""
    return _row_at(machine, stand, -1)


def bounds(machine):
    """The pair of the least and of the greatest tally of all rows, None in the place of a missing one."""
    check_machine(machine)
    return least_and_greatest(machine.stands, machine.steps, reached(machine))


def end_bounds(machine):
    """The same of all rows that end well, None if there are no such rows."""
    check_machine(machine)
    stands = [stand for stand in reached(machine) if stand in machine.ends]
    return least_and_greatest(machine.stands, machine.steps, stands) if stands else None
