"""The least and the greatest tallies, and the least of the shortest rows that have them.

The two sides are one search: with sign 1 the greatest tally is the best one, with sign -1 the least.
"""

from staytallies.machines import check_machine, check_stand, led_to, reached

ENDLESS = "endless"


def _longer_rows(machine, sign, rows):
    """From the best rows of one length to each stand, the best ones of the next length.

    Both are dicts from a stand to the pair of its best tally, times sign, and of the least row with it.
    """
    longer = {}
    for begun, letter, end, gain in machine.steps:
        if begun in rows:
            tally, row = rows[begun]
            tally += sign * gain
            row += letter
            if end not in longer or tally > longer[end][0] or (tally == longer[end][0] and row < longer[end][1]):
                longer[end] = (tally, row)
    return longer


def _improved(rows, best):
    """The stands with a row that is better than the best one."""
    return [stand for stand in rows if stand not in best or rows[stand][0] > best[stand][0]]


def _best_rows(machine, sign):
    """A dict from each reached stand to the pair of its best tally, times sign, and of its row.

    The pair is (ENDLESS, None) where there is no best tally.
    """
    best = {}
    rows = {0: (0, "")}
    # Rows shorter than the number of stands are enough: a longer one goes round a ring, and if no
    # ring gains, the row without the ring is shorter and no worse.
    for _ in range(machine.stands):
        improved = _improved(rows, best)
        for stand in improved:
            best[stand] = rows[stand]
        rows = _longer_rows(machine, sign, rows)
    # A row as long as that is better than all shorter ones only if its ring gains, and each ring
    # that gains has such a row to one of its stands.
    endless = led_to(machine, _improved(rows, best))
    for stand in endless:
        best[stand] = (ENDLESS, None)
    return best


def _tally_at(machine, stand, sign):
    check_machine(machine)
    check_stand(machine, stand)
    best = _best_rows(machine, sign)
    if stand not in best:
        return None
    tally = best[stand][0]
    return ENDLESS if tally == ENDLESS else sign * tally


def _row_at(machine, stand, sign):
    check_machine(machine)
    check_stand(machine, stand)
    best = _best_rows(machine, sign)
    return best[stand][1] if stand in best else None


def greatest_at(machine, stand):
    """The greatest tally of all rows to a stand, "endless" if there is none, None without a row."""
    return _tally_at(machine, stand, 1)


def least_at(machine, stand):
    """The least tally of all rows to a stand, "endless" if there is none, None without a row."""
    return _tally_at(machine, stand, -1)


def greatest_row(machine, stand):
    """The least of the shortest rows to a stand with its greatest tally, None if there is none."""
    return _row_at(machine, stand, 1)


def least_row(machine, stand):
    """The least of the shortest rows to a stand with its least tally, None if there is none."""
    return _row_at(machine, stand, -1)


def _best_of(machine, stands, sign):
    """The best tally of all rows to these reached stands, None if there is none."""
    best = _best_rows(machine, sign)
    tallies = [best[stand][0] for stand in stands]
    if ENDLESS in tallies:
        return None
    return sign * max(tallies)


def _best_pair(machine, stands):
    return (_best_of(machine, stands, -1), _best_of(machine, stands, 1))


def bounds(machine):
    """The pair of the least and the greatest tally of all rows, None in the place of a missing one."""
    check_machine(machine)
    return _best_pair(machine, reached(machine))


def end_bounds(machine):
    """The same of all rows that end well, None if there are no such rows."""
    check_machine(machine)
    stands = [stand for stand in reached(machine) if stand in machine.ends]
    return _best_pair(machine, stands) if stands else None
