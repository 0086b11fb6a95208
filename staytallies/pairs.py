"""Two machines in step: how much their tallies differ, and where the machines come apart."""

from staytallies.machines import LETTERS, MOST_NUMBER, check_machine, check_number, moves_of
from staytallies.ways import first_row_out, is_within, least_and_greatest, led_to


def _steps_of_both(one, other):
    """The steps of both machines in step, their gains the differences, with a number for each pair of stands."""
    return [
        (begun * other.stands + start, letter, end * other.stands + goal, gain - less)
        for begun, letter, end, gain in one.steps
        for start, same, goal, less in other.steps
        if letter == same
    ]


def difference(one, other):
    """The pair of the least and the greatest difference of tallies of all rows of both machines.

    None is in the place of one that there is not.
    """
    check_machine(one)
    check_machine(other)
    steps = _steps_of_both(one, other)
    return least_and_greatest(one.stands * other.stands, steps, led_to(steps, [0]))


def in_step(one, other, most):
    """Tells whether the tallies of each row of both machines differ by at most so much."""
    check_machine(one)
    check_machine(other)
    check_number(most, 0, MOST_NUMBER)
    return is_within(difference(one, other), -most, most)


def _moves_from(one_moves, other_moves, begun, start):
    """The letters from a stand of each machine with the stands behind, None if the machines come apart there."""
    moves = []
    for letter in LETTERS:
        end, gain = one_moves.get((begun, letter), (None, None))
        goal, same = other_moves.get((start, letter), (None, None))
        if end is not None or goal is not None:
            moves.append((letter, (end, goal) if gain == same else None))
    return moves


def first_apart(one, other):
    """The shortest string, of these the least, that is a row of just one, or of both with unlike tallies, or None."""
    check_machine(one)
    check_machine(other)
    one_moves = moves_of(one)
    other_moves = moves_of(other)
    moves = {
        (begun, start): _moves_from(one_moves, other_moves, begun, start)
        for begun in range(one.stands)
        for start in range(other.stands)
    }
    return first_row_out(moves, (0, 0))
