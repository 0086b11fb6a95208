"""Small machines for the tests, the same ones in each run, and values that are of a wrong kind."""

from staytallies.machines import Machine

SWING = Machine(3, ((0, "a", 1, 3), (0, "b", 0, 0), (1, "a", 0, -3)), (0,))
RUN = Machine(2, ((0, "a", 1, -5), (1, "a", 1, 2)), (1,))
BARE = Machine(1, (), ())

# No machine, no stand of a small machine, and no row of a machine with letters, in whatever place.
ODD_VALUES = (
    None, True, False, -1, 8, 10 ** 30, "x", "0", "stands 1", (), (0,), (1, (), ()), [], [0], ["a"],
    ("a",), {}, {0: 0}, {"a": 1}, [[], {}], ((), []),
)
NO_MACHINES = ODD_VALUES + ((3, SWING.steps, SWING.ends),)
NO_INTEGERS = tuple(value for value in ODD_VALUES if isinstance(value, bool) or not isinstance(value, int))


class Draw:
    """Numbers that look drawn, by a fixed rule."""

    def __init__(self, seed):
        self.state = seed

    def below(self, many):
        drawn = 0
        for _ in range(1 + many.bit_length() // 31):
            self.state = (self.state * 6364136223846793005 + 1442695040888963407) % 2 ** 64
            drawn = drawn * 2 ** 31 + (self.state >> 33)
        return drawn % many


def drawn_machine(draw, most_stands=4, letters="ab", most_gain=2):
    stands = 1 + draw.below(most_stands)
    steps = []
    for begun in range(stands):
        for letter in letters:
            if draw.below(4) > 0:
                gain = draw.below(2 * most_gain + 1) - most_gain
                steps.append((begun, letter, draw.below(stands), gain))
    ends = tuple(stand for stand in range(stands) if draw.below(2))
    return Machine(stands, tuple(steps), ends)


def drawn_machines(many, most_stands=4, letters="ab", most_gain=2):
    draw = Draw(20)
    return [drawn_machine(draw, most_stands, letters, most_gain) for _ in range(many)]


def drawn_ladders(many, letters="abc", most_gain=3):
    """Machines without rings: each step leads to a later stand."""
    draw = Draw(7)
    ladders = []
    for _ in range(many):
        stands = 2 + draw.below(5)
        steps = [
            (begun, letter, begun + 1 + draw.below(stands - begun - 1), draw.below(2 * most_gain + 1) - most_gain)
            for begun in range(stands - 1) for letter in letters if draw.below(4) > 0
        ]
        ladders.append(Machine(stands, tuple(steps), (stands - 1,)))
    return ladders


def rows_to(machine, most):
    """All rows of at most so many letters, shortest first, then least, each with stand and tally."""
    found = [("", 0, 0)]
    newest = found
    for _ in range(most):
        newest = [
            (row + letter, end, tally + gain)
            for row, stand, tally in newest
            for begun, letter, end, gain in machine.steps
            if begun == stand
        ]
        found = found + newest
    return found


def lassos(machine, most):
    """All pairs of a row and of a loop behind it, of at most so many letters together, with the tallies on the way.

    The triple of the row, the loop, and the list of the tallies of all beginnings of the row and the loop.
    """
    ends = {row: (stand, tally) for row, stand, tally in rows_to(machine, most)}
    for row in ends:
        tallies = [ends[row[:many]][1] for many in range(len(row) + 1)]
        for at in range(len(row)):
            if ends[row[:at]][0] == ends[row][0]:
                yield row[:at], row[at:], tallies


def ring(gains):
    """One ring of stands by the letter a, with these gains."""
    many = len(gains)
    steps = tuple((at, "a", (at + 1) % many, gain) for at, gain in enumerate(gains))
    return Machine(many, steps, (many - 1,))


def chain(gains):
    """A chain of stands by the letter a, with these gains."""
    steps = tuple((at, "a", at + 1, gain) for at, gain in enumerate(gains))
    return Machine(len(gains) + 1, steps, (len(gains),))
