import unittest

from samples import BARE, ODD_VALUES, RUN, SWING, chain, drawn_machines, ring, rows_to
from staytallies.errors import BadMachine, BadStand
from staytallies.extremes import bounds, end_bounds, greatest_at, greatest_row, least_at, least_row
from staytallies.machines import Machine

AT_A_STAND = (greatest_at, least_at, greatest_row, least_row)


def turned(machine):
    """The same machine with all gains negated."""
    steps = tuple((begun, letter, end, -gain) for begun, letter, end, gain in machine.steps)
    return Machine(machine.stands, steps, machine.ends)


def greatest_by_length(machine, most):
    """For each length the greatest tallies of rows of just this length, by stand."""
    layers = [{0: 0}]
    for _ in range(most):
        layer = {}
        for begun, _, end, gain in machine.steps:
            if begun in layers[-1]:
                layer[end] = max(layer.get(end, layers[-1][begun] + gain), layers[-1][begun] + gain)
        layers.append(layer)
    return layers


def slow_greatest(machine):
    """Greatest tallies by stand, "endless" where long rows are better than short ones."""
    # For a few stands and small gains, a ring that gains has long outdone all short rows by then.
    layers = greatest_by_length(machine, 60)
    found = {}
    for stand in range(machine.stands):
        short = [layer[stand] for layer in layers[:machine.stands] if stand in layer]
        long = [layer[stand] for layer in layers if stand in layer]
        found[stand] = None if not long else max(long) if max(long) == max(short) else "endless"
    return found


class Examples(unittest.TestCase):
    def test_the_examples(self):
        swing = Machine(3, ((0, "a", 1, 3), (0, "b", 0, 0), (1, "a", 0, -3)), (0,))
        run = Machine(2, ((0, "a", 1, -5), (1, "a", 1, 2)), (1,))
        self.assertEqual(
            [greatest_at(swing, 1), greatest_row(swing, 1), greatest_at(swing, 2), least_row(swing, 0), bounds(swing),
             end_bounds(swing)],
            [3, "a", None, "", (0, 3), (0, 0)],
        )
        self.assertEqual(
            [greatest_at(run, 1), least_at(run, 1), least_row(run, 1), greatest_row(run, 1), bounds(run),
             end_bounds(run)],
            ["endless", -5, "a", None, (-5, None), (-5, None)],
        )


class WrongArguments(unittest.TestCase):
    def test_bad_machine_first_of_all(self):
        for value in ODD_VALUES + ((3, SWING.steps, SWING.ends),):
            for function in AT_A_STAND:
                for stand in (0, 9, None, True):
                    with self.assertRaises(BadMachine):
                        function(value, stand)
            for function in (bounds, end_bounds):
                with self.assertRaises(BadMachine):
                    function(value)

    def test_bad_stand(self):
        for machine in (SWING, RUN, BARE, Machine(8, (), ())):
            for value in ODD_VALUES + (machine.stands, machine.stands + 1, -machine.stands):
                if not (value == 0 and isinstance(value, int)) or isinstance(value, bool):
                    for function in AT_A_STAND:
                        with self.assertRaises(BadStand):
                            function(machine, value)

    def test_each_stand_is_one(self):
        for stands in range(1, 9):
            machine = Machine(stands, (), ())
            for stand in range(stands):
                for function, here in zip(AT_A_STAND, (0, 0, "", "")):
                    self.assertEqual(function(machine, stand), here if stand == 0 else None)


class Tallies(unittest.TestCase):
    def check(self, machine, stand, least, greatest):
        """Pairs of a tally and its row, or alone what stands for both."""
        for (tally_of, row_of), wanted in (
            ((least_at, least_row), least), ((greatest_at, greatest_row), greatest),
        ):
            tally, row = wanted if isinstance(wanted, tuple) else (wanted, None)
            self.assertEqual(tally_of(machine, stand), tally)
            self.assertEqual(row_of(machine, stand), row)

    def test_no_rows_to_a_stand(self):
        machine = Machine(3, ((0, "a", 0, 1), (1, "a", 0, 5), (1, "b", 2, 1), (2, "a", 2, 0)), (1, 2))
        self.check(machine, 1, None, None)
        self.check(machine, 2, None, None)
        self.check(machine, 0, (0, ""), "endless")
        self.assertEqual(bounds(machine), (0, None))
        self.assertIsNone(end_bounds(machine))

    def test_endless_in_both_directions(self):
        free = Machine(1, ((0, "a", 0, 1), (0, "b", 0, -2)), (0,))
        self.check(free, 0, "endless", "endless")
        self.assertEqual((bounds(free), end_bounds(free)), ((None, None), (None, None)))

    def test_endless_in_one_direction(self):
        for gain, least, greatest in ((1, (0, ""), "endless"), (-1, "endless", (0, "")), (0, (0, ""), (0, ""))):
            self.check(Machine(1, ((0, "c", 0, gain),), ()), 0, least, greatest)

    def test_only_stands_behind_a_ring_are_endless(self):
        machine = Machine(
            5, ((0, "a", 1, 1), (0, "b", 3, 7), (1, "a", 1, 1), (1, "b", 2, -9), (3, "a", 4, -2)), (3, 4),
        )
        self.check(machine, 0, (0, ""), (0, ""))
        self.check(machine, 1, (1, "a"), "endless")
        self.check(machine, 2, (-8, "ab"), "endless")
        self.check(machine, 3, (7, "b"), (7, "b"))
        self.check(machine, 4, (5, "ba"), (5, "ba"))
        self.assertEqual(bounds(machine), (-8, None))
        self.assertEqual(end_bounds(machine), (5, 7))

    def test_a_ring_that_no_row_reaches_counts_nothing(self):
        machine = Machine(3, ((0, "a", 1, 2), (2, "a", 2, 1), (2, "b", 1, 0), (2, "c", 2, -1)), (1, 2))
        self.check(machine, 1, (2, "a"), (2, "a"))
        self.check(machine, 2, None, None)
        self.assertEqual((bounds(machine), end_bounds(machine)), ((0, 2), (2, 2)))

    def test_a_ring_behind_a_deep_fall(self):
        deep = 10 ** 30
        machine = Machine(4, ((0, "a", 1, -deep), (0, "b", 2, deep), (1, "a", 1, 1), (1, "b", 2, -deep)), (2,))
        self.check(machine, 2, (-2 * deep, "ab"), "endless")

    def test_rings_that_give_nothing(self):
        nothing = ring((3, -1, -2))
        self.check(nothing, 0, (0, ""), (0, ""))
        self.check(nothing, 1, (3, "a"), (3, "a"))
        self.check(nothing, 2, (2, "aa"), (2, "aa"))
        self.assertEqual((bounds(nothing), end_bounds(nothing)), ((0, 3), (2, 2)))

    def test_rings_of_eight_stands(self):
        big = 10 ** 30
        for over, least, greatest in ((0, False, False), (1, False, True), (-1, True, False)):
            gains = [big, big, big, big - 5, -big, -big, -big, -big + 5 + over]
            machine = ring(gains)
            for stand in range(8):
                first = sum(gains[:stand])
                row = "a" * stand
                self.check(
                    machine, stand,
                    "endless" if least else (first, row), "endless" if greatest else (first, row),
                )

    def test_chains_of_eight_stands(self):
        big = 10 ** 30
        self.check(chain((big,) * 7), 7, (7 * big, "a" * 7), (7 * big, "a" * 7))
        self.assertEqual(bounds(chain((-big,) * 7)), (-7 * big, 0))
        self.assertEqual(end_bounds(chain((-big,) * 7)), (-7 * big, -7 * big))

    def test_the_longest_way_is_the_best(self):
        steps = []
        for at in range(7):
            steps.append((at, "a", 7, 0))
            steps.append((at, "b", at + 1, 1))
        machine = Machine(8, tuple(steps), (7,))
        self.check(machine, 7, (0, "a"), (7, "b" * 7))
        self.check(turned(machine), 7, (-7, "b" * 7), (0, "a"))

    def test_rings_on_the_way_that_give_nothing(self):
        machine = Machine(3, ((0, "a", 1, 1), (0, "b", 2, 1), (1, "a", 0, -1), (1, "b", 2, 0), (2, "a", 1, 0)), (2,))
        self.check(machine, 2, (1, "b"), (1, "b"))
        self.check(machine, 1, (1, "a"), (1, "a"))
        self.check(machine, 0, (0, ""), (0, ""))

    def test_the_shortest_row_before_the_least(self):
        machine = Machine(3, ((0, "a", 1, 0), (0, "b", 2, 4), (1, "a", 2, 4)), ())
        self.check(machine, 2, (4, "b"), (4, "b"))
        machine = Machine(3, ((0, "a", 1, 0), (0, "b", 2, 4), (1, "a", 2, 5)), ())
        self.check(machine, 2, (4, "b"), (5, "aa"))

    def test_the_least_of_the_shortest_rows(self):
        machine = Machine(4, ((0, "b", 2, 1), (0, "c", 1, 1), (1, "a", 3, 1), (2, "d", 3, 1)), ())
        self.check(machine, 3, (2, "bd"), (2, "bd"))
        machine = Machine(4, ((0, "b", 2, 0), (0, "c", 1, 1), (1, "a", 3, 1), (2, "d", 3, 1)), ())
        self.check(machine, 3, (1, "bd"), (2, "ca"))
        both = Machine(2, ((0, "a", 1, 1), (0, "b", 1, 1), (0, "c", 1, 0), (0, "d", 1, 0)), ())
        self.check(both, 1, (0, "c"), (1, "a"))

    def test_a_later_better_row(self):
        machine = Machine(2, ((0, "a", 1, 5), (1, "a", 0, 0), (1, "b", 1, -1)), ())
        self.check(machine, 0, "endless", "endless")
        machine = Machine(3, ((0, "a", 1, 5), (1, "a", 2, 0), (2, "b", 2, 0)), ())
        self.check(machine, 2, (5, "aa"), (5, "aa"))

    def test_stand_nought_has_the_empty_row(self):
        machine = Machine(2, ((0, "a", 1, -3), (1, "a", 0, 3), (1, "b", 1, 0)), ())
        self.check(machine, 0, (0, ""), (0, ""))
        self.check(machine, 1, (-3, "a"), (-3, "a"))


class OverAll(unittest.TestCase):
    def test_no_steps(self):
        self.assertEqual(bounds(BARE), (0, 0))
        self.assertIsNone(end_bounds(BARE))
        self.assertEqual(end_bounds(Machine(1, (), (0,))), (0, 0))
        self.assertIsNone(end_bounds(Machine(2, (), (1,))))

    def test_all_rows_and_those_that_end_well(self):
        machine = Machine(4, ((0, "a", 1, 4), (0, "b", 2, -6), (1, "a", 3, -1), (2, "a", 3, 1)), (2, 3))
        self.assertEqual(bounds(machine), (-6, 4))
        self.assertEqual(end_bounds(machine), (-6, 3))

    def test_endless_only_away_from_the_ends(self):
        machine = Machine(3, ((0, "a", 1, 4), (0, "b", 2, -6), (2, "a", 2, -1), (2, "b", 2, 1)), (0, 1))
        self.assertEqual(bounds(machine), (None, None))
        self.assertEqual(end_bounds(machine), (0, 4))

    def test_kinds_of_results(self):
        self.assertIs(type(bounds(SWING)), tuple)
        self.assertIs(type(end_bounds(SWING)), tuple)


class Drawn(unittest.TestCase):
    def test_against_slow_tallies(self):
        for machine in drawn_machines(800):
            greatest = slow_greatest(machine)
            least = slow_greatest(turned(machine))
            for stand in range(machine.stands):
                self.assertEqual(greatest_at(machine, stand), greatest[stand])
                other = least[stand]
                self.assertEqual(least_at(machine, stand), -other if isinstance(other, int) else other)

    def test_against_all_short_rows(self):
        for machine in drawn_machines(300) + drawn_machines(100, most_stands=3, letters="abcd", most_gain=1):
            rows = rows_to(machine, machine.stands)
            for stand in range(machine.stands):
                for tally_of, row_of in ((greatest_at, greatest_row), (least_at, least_row)):
                    tally = tally_of(machine, stand)
                    fitting = [row for row, end, worth in rows if (end, worth) == (stand, tally)]
                    self.assertEqual(row_of(machine, stand), fitting[0] if fitting else None)

    def test_bounds_against_stands(self):
        for machine in drawn_machines(300):
            lows = [least_at(machine, stand) for stand in range(machine.stands)]
            highs = [greatest_at(machine, stand) for stand in range(machine.stands)]
            self.assertEqual(bounds(machine), self.pair(lows, highs))
            lows = [lows[stand] for stand in machine.ends]
            highs = [highs[stand] for stand in machine.ends]
            self.assertEqual(end_bounds(machine), self.pair(lows, highs))

    def pair(self, lows, highs):
        lows = [low for low in lows if low is not None]
        highs = [high for high in highs if high is not None]
        if not lows:
            return None
        return (None if "endless" in lows else min(lows), None if "endless" in highs else max(highs))

    def test_equal_calls_give_equal_results(self):
        for machine in drawn_machines(20):
            copy = Machine(machine.stands, machine.steps, machine.ends)
            for stand in range(machine.stands):
                for function in AT_A_STAND:
                    self.assertEqual(function(machine, stand), function(copy, stand))
                    self.assertEqual(function(machine, stand), function(machine, stand))
            self.assertEqual(machine, copy)


if __name__ == "__main__":
    unittest.main()
