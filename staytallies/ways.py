"""Searches over steps alone, whatever the number of stands and the size of the gains.

They all begin in the stand 0 if nothing else is said. Least and greatest tallies are one search:
with sign 1 the greatest tally is the best one, with sign -1 the least.
"""

ENDLESS = "endless"


def led_to(steps, begins):
    """The ascending list of these stands and of all to which letters lead from them."""
    found = {stand: True for stand in begins}
    waiting = list(begins)
    while waiting:
        stand = waiting.pop()
        for begun, _, end, _ in steps:
            if begun == stand and end not in found:
                found[end] = True
                waiting.append(end)
    return sorted(found)


def longer_rows(steps, sign, rows):
    """From the best rows of one length to each stand, the best ones of the next length.

    Both are dicts from a stand to the pair of its best tally, times sign, and of the least row with it.
    """
    longer = {}
    for begun, letter, end, gain in steps:
        if begun in rows:
            tally, row = rows[begun]
            tally += sign * gain
            row += letter
            if end not in longer or tally > longer[end][0] or (tally == longer[end][0] and row < longer[end][1]):
                longer[end] = (tally, row)
    return longer


def _improved(rows, best):
    """The stands with a row that is better than the best one."""
    return [stand for stand in rows if stand not in best or rows[stand][0] > best[stand][0]]


def best_rows(many, steps, sign):
    """A dict from each reached one of so many stands to the pair of its best tally, times sign, and of its row.

    The row is the least of the shortest ones. The pair is (ENDLESS, None) where there is no best tally.
    """
    best = {}
    rows = {0: (0, "")}
    # Rows shorter than the number of stands are enough: a longer one goes round a ring, and if no
    # ring gains, the row without the ring is shorter and no worse.
    for _ in range(many):
        improved = _improved(rows, best)
        for stand in improved:
            best[stand] = rows[stand]
        rows = longer_rows(steps, sign, rows)
    # A row as long as that is better than all shorter ones only if its ring gains, and each ring
    # that gains has such a row to one of its stands.
    endless = led_to(steps, _improved(rows, best))
    for stand in endless:
        best[stand] = (ENDLESS, None)
    return best


def shortest_rows(many, steps):
    """A dict from each reached stand to the least of the shortest rows to it."""
    # With the sign 0 all tallies are alike, so that no longer row is better than a shorter one.
    best = best_rows(many, steps, 0)
    return {stand: best[stand][1] for stand in best}


def best_loops(many, steps, stand, sign):
    """The best loops at a stand, one for each length up to the number of stands that has one.

    Each is the pair of the sum of its gains, times sign, and of its letters.
    """
    loops = []
    rows = {stand: (0, "")}
    for _ in range(many):
        rows = longer_rows(steps, sign, rows)
        if stand in rows:
            loops.append(rows[stand])
    return loops


def _best_of(many, steps, sign, stands):
    best = best_rows(many, steps, sign)
    tallies = [best[stand][0] for stand in stands]
    return None if ENDLESS in tallies else sign * max(tallies)


def least_and_greatest(many, steps, stands):
    """The pair of the least and the greatest tally at these reached stands, None in the place of a missing one."""
    return (_best_of(many, steps, -1, stands), _best_of(many, steps, 1, stands))


def is_within(pair, low, high):
    """Tells whether the least and the greatest of a pair are both there, and from low to high."""
    least, greatest = pair
    return least is not None and greatest is not None and low <= least and greatest <= high


def first_row_out(moves, begin):
    """The shortest row, of these the least, that leads from a place out; None if there is none.

    moves is a dict from each place to the list of the pairs of a letter, ascending, and of the place
    to which it leads, or None if it leads out.
    """
    seen = {begin: True}
    layer = [(begin, "")]
    while layer:
        # Each layer has the rows of one length, ascending, so that the first row found is the least.
        longer = []
        for place, row in layer:
            for letter, end in moves[place]:
                if end is None:
                    return row + letter
                if end not in seen:
                    seen[end] = True
                    longer.append((end, row + letter))
        layer = longer
    return None
