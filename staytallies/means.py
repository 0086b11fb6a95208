"""The greatest and the least mean gain of loops, and numbers on the stands that bar a greater one."""

from math import gcd

from staytallies.machines import check_machine, gain_of_loop, is_whole_number, reached
from staytallies.ways import best_loops, best_rows, shortest_rows


def _best_loop(machine, sign):
    """The triple of a reached stand, the sum of gains of a loop there with the best mean, times sign, and the loop.

    None if there are no loops.
    """
    best = None
    for stand in reached(machine):
        # Loops as long as the number of stands are enough: longer ones are made of such, and of
        # these one has a mean that is not worse.
        for gain, loop in best_loops(machine.stands, machine.steps, stand, sign):
            if best is None or gain * len(best[2]) > best[1] * len(loop):
                best = (stand, gain, loop)
    return best


def _fraction(over, under):
    common = gcd(over, under)
    return (over // common, under // common)


def _best_mean(machine, sign):
    best = _best_loop(machine, sign)
    return None if best is None else _fraction(sign * best[1], len(best[2]))


def greatest_mean(machine):
    """The greatest mean of all loops behind rows, as a fraction, None if there are no loops."""
    check_machine(machine)
    return _best_mean(machine, 1)


def least_mean(machine):
    """The least mean of all loops behind rows, as a fraction, None if there are no loops."""
    check_machine(machine)
    return _best_mean(machine, -1)


def _steps_over(machine, over, under):
    """The steps of a machine with what each gains over this mean, times under."""
    return [(begun, letter, end, under * gain - over) for begun, letter, end, gain in machine.steps]


def _numbers(machine, over, under):
    """A tuple with the greatest tally over this mean for each reached stand, None for each other one."""
    best = best_rows(machine.stands, _steps_over(machine, over, under), 1)
    return tuple([best[stand][0] if stand in best else None for stand in range(machine.stands)])


def mean_paper(machine):
    """A tuple of the greatest mean, a row, a loop that has it, and numbers that bar a greater one, or None."""
    check_machine(machine)
    best = _best_loop(machine, 1)
    if best is None:
        return None
    stand, gain, loop = best
    over, under = _fraction(gain, len(loop))
    lead = shortest_rows(machine.stands, machine.steps)[stand]
    return ((over, under), lead, loop, _numbers(machine, over, under))


def _is_fraction(value):
    if not isinstance(value, tuple) or len(value) != 2:
        return False
    over, under = value
    return is_whole_number(over) and is_whole_number(under) and under >= 1 and gcd(over, under) == 1


def _is_mean_of(machine, mean, lead, loop):
    gain = gain_of_loop(machine, lead, loop)
    return gain is not None and gain * mean[1] == mean[0] * len(loop)


def _bars_greater(machine, mean, numbers):
    """Tells whether numbers on the stands show that no loop has a greater mean."""
    if not isinstance(numbers, tuple) or len(numbers) != machine.stands:
        return False
    stands = reached(machine)
    if not all([is_whole_number(numbers[stand]) for stand in stands]):
        return False
    over, under = mean
    return all([
        numbers[end] >= numbers[begun] + gain
        for begun, _, end, gain in _steps_over(machine, over, under)
        if begun in stands
    ])


def right_mean(machine, value):
    """Tells of any value whether it is a mean paper."""
    check_machine(machine)
    if not isinstance(value, tuple) or len(value) != 4:
        return False
    mean, lead, loop, numbers = value
    return _is_fraction(mean) and _is_mean_of(machine, mean, lead, loop) and _bars_greater(machine, mean, numbers)
