import unittest

from samples import (
    BARE, NO_MACHINES, ODD_VALUES, RUN, SWING, Draw, chain, drawn_ladders, drawn_machines, lassos, ring, rows_to,
)
from staytallies.energy import credit, lasting, needed, right_lasting
from staytallies.errors import BadMachine
from staytallies.extremes import bounds
from staytallies.machines import Machine
from staytallies.means import greatest_mean

BIG = 10 ** 30
PAID = Machine(2, ((0, "a", 1, -5), (1, "a", 1, 2), (1, "b", 1, -1)), (1,))


class Examples(unittest.TestCase):
    def test_the_examples(self):
        run = Machine(2, ((0, "a", 1, -5), (1, "a", 1, 2), (1, "b", 1, -1)), (1,))
        self.assertEqual(
            [needed(run), credit(run), right_lasting(run, (5, "a", "aba")), right_lasting(run, (6, "a", "a")),
             right_lasting(run, lasting(run)), credit(Machine(1, (), ()))],
            [None, 5, True, False, True, None],
        )


class WrongArguments(unittest.TestCase):
    def test_bad_machine_first_of_all(self):
        for value in NO_MACHINES:
            for function in (needed, credit, lasting):
                with self.assertRaises(BadMachine):
                    function(value)
            for other in (None, (5, "a", "aba"), ()):
                with self.assertRaises(BadMachine):
                    right_lasting(value, other)


class EnergyTestCase(unittest.TestCase):
    def check(self, machine, wanted):
        """The credit is the wanted one, and a row and a loop that are told show it."""
        self.assertEqual(credit(machine), wanted)
        found = lasting(machine)
        if wanted is None:
            self.assertIsNone(found)
        else:
            self.assertIs(type(found), tuple)
            self.assertEqual(found[0], wanted)
            self.assertIs(right_lasting(machine, found), True)


class Needed(unittest.TestCase):
    def test_nothing_is_needed(self):
        for machine in (BARE, SWING, chain((5, -5)), ring((0,)), ring((3,)), ring((3, -1, -1))):
            self.assertEqual(needed(machine), 0)

    def test_the_deepest_row(self):
        self.assertEqual(needed(RUN), 5)
        self.assertEqual(needed(chain((-5, 3, -4, 9))), 6)
        self.assertEqual(needed(chain((-BIG,) * 7)), 7 * BIG)
        self.assertEqual(needed(chain((BIG,) * 6 + (-BIG,))), 0)
        self.assertEqual(needed(ring((-3, 3))), 3)
        self.assertEqual(needed(ring((-2, -2, 9))), 4)

    def test_rows_that_need_ever_more(self):
        for machine in (PAID, ring((-1,)), ring((BIG, -BIG, -1)), Machine(1, ((0, "a", 0, 9), (0, "b", 0, -1)), ())):
            self.assertIsNone(needed(machine))

    def test_only_reached_stands_count(self):
        machine = Machine(3, ((0, "a", 2, -1), (1, "a", 1, -1), (1, "b", 2, -9)), ())
        self.assertEqual(needed(machine), 1)


class Credit(EnergyTestCase):
    def test_no_loops(self):
        for machine in (BARE, Machine(8, (), ()), chain((5, 5, 5)), chain((0,) * 7)):
            self.check(machine, None)

    def test_loops_that_lose(self):
        for machine in (ring((-1,)), ring((5, -6)), ring((BIG, -1, -BIG))):
            self.check(machine, None)
        self.check(Machine(2, ((0, "a", 1, 99), (1, "b", 1, -1)), ()), None)

    def test_loops_that_give_nothing(self):
        self.check(ring((0,)), 0)
        self.check(ring((5, -5)), 0)
        self.check(ring((-5, 5)), 5)
        self.check(ring((-5, 2, -7, 10)), 10)
        self.check(SWING, 0)

    def test_loops_that_gain(self):
        self.check(ring((3,)), 0)
        self.check(ring((-5, 6)), 5)
        self.check(ring((-1, -2, -3, -4, 0, 0, 0, 11)), 10)
        self.check(PAID, 5)

    def test_great_gains(self):
        self.check(ring((-BIG,) * 4 + (BIG,) * 4), 4 * BIG)
        self.check(ring((-BIG,) * 4 + (BIG,) * 3 + (BIG - 1,)), None)
        self.check(Machine(1, ((0, "a", 0, -1), (0, "b", 0, BIG)), ()), 0)
        self.check(Machine(2, ((0, "a", 0, -1), (0, "b", 1, -BIG), (1, "a", 1, -1), (1, "b", 1, 1)), ()), BIG)

    def test_loops_that_no_row_reaches(self):
        machine = Machine(3, ((0, "a", 1, 1), (1, "b", 1, -1), (2, "a", 2, 5), (2, "b", 0, 0)), ())
        self.check(machine, None)

    def test_the_cheapest_of_several_loops(self):
        steps = ((0, "a", 1, -4), (0, "b", 2, -3), (1, "a", 1, 0), (2, "a", 3, -2), (3, "a", 3, 9))
        self.check(Machine(4, steps, ()), 4)
        steps = ((0, "a", 1, -4), (0, "b", 2, -3), (1, "a", 1, 0), (2, "a", 3, -2), (3, "a", 2, 9))
        self.check(Machine(4, steps, ()), 4)
        steps = ((0, "a", 1, -4), (0, "b", 2, -3), (1, "a", 1, 0), (2, "a", 3, 0), (3, "a", 2, 9))
        self.check(Machine(4, steps, ()), 3)

    def test_the_cheapest_of_several_rows(self):
        steps = ((0, "a", 2, -5), (0, "b", 1, 3), (1, "a", 2, -6), (2, "a", 2, 0))
        self.check(Machine(3, steps, ()), 3)
        steps = ((0, "a", 2, -5), (0, "b", 1, -3), (1, "a", 2, -3), (2, "a", 2, 0))
        self.check(Machine(3, steps, ()), 5)

    def test_gains_that_come_first_pay_for_losses(self):
        self.check(Machine(3, ((0, "a", 1, 7), (1, "a", 2, -9), (2, "a", 2, 1)), ()), 2)
        self.check(Machine(3, ((0, "a", 1, -2), (1, "a", 2, 8), (2, "a", 2, 0), (2, "b", 2, -9)), ()), 2)
        self.check(chain((1, 2, 3)), None)

    def test_a_ring_that_gains_ahead_of_a_loss(self):
        steps = ((0, "a", 0, 1), (0, "b", 1, -100), (1, "a", 1, 0))
        self.check(Machine(2, steps, ()), 0)
        self.assertIs(right_lasting(Machine(2, steps, ()), (0, "a" * 100 + "b", "a")), True)
        self.assertIs(right_lasting(Machine(2, steps, ()), (0, "a" * 99 + "b", "a")), False)

    def test_eight_stands(self):
        steps = tuple((at, "b", at + 1, -1) for at in range(7)) + ((7, "a", 7, 0),)
        self.check(Machine(8, steps, ()), 7)
        self.check(Machine(8, steps[:-1] + ((7, "a", 0, 7),), ()), 7)
        self.check(Machine(8, steps[:-1] + ((7, "a", 0, 6),), ()), None)
        self.check(Machine(8, steps[:-1] + ((7, "a", 6, 1),), ()), 7)
        self.check(Machine(8, ((0, "a", 0, -1), (0, "b", 7, -2), (7, "d", 7, 0)), ()), 2)


class RightLasting(unittest.TestCase):
    def test_right_ones(self):
        for value in ((5, "a", "a"), (5, "aa", "a"), (5, "a", "aab"), (5, "a", "aba"), (5, "aaba", "abbaaa")):
            self.assertIs(right_lasting(PAID, value), True)
        self.assertIs(right_lasting(ring((-5, 5)), (5, "", "aa")), True)
        self.assertIs(right_lasting(ring((-5, 5)), (5, "aaa", "aaaa")), True)

    def test_too_small_and_too_great_numbers(self):
        for number in (0, 4, 6, -5, 10 ** 50):
            self.assertIs(right_lasting(PAID, (number, "a", "a")), False)
        for number in (-1, 1):
            self.assertIs(right_lasting(SWING, (number, "", "b")), False)
        self.assertIs(right_lasting(SWING, (0, "", "b")), True)

    def test_rows_and_loops_that_need_more(self):
        for value in ((5, "ab", "a"), (5, "a", "ba"), (5, "aabbb", "a"), (5, "a", "abbba")):
            self.assertIs(right_lasting(PAID, value), False)
        machine = Machine(2, ((0, "a", 0, 0), (0, "b", 1, -1), (1, "a", 1, 0)), ())
        self.assertIs(right_lasting(machine, (0, "b", "a")), False)
        self.assertIs(right_lasting(machine, (1, "b", "a")), False)
        self.assertIs(right_lasting(machine, (0, "aa", "a")), True)

    def test_loops_that_lose(self):
        for value in ((5, "a", "b"), (5, "aaaa", "b"), (5, "a", "abbb"), (5, "aaa", "abbb")):
            self.assertIs(right_lasting(PAID, value), False)
        self.assertIs(right_lasting(PAID, (5, "a", "abb")), True)
        self.assertIs(right_lasting(ring((-1,)), (0, "", "a")), False)

    def test_what_is_no_row_and_loop(self):
        for lead, loop in (
            ("a", ""), ("", ""), ("", "a"), ("b", "a"), ("a", "c"), ("a", "a "), ("", "aa"), ("aa", "ac"), ("x", "a"),
        ):
            self.assertIs(right_lasting(PAID, (5, lead, loop)), False)
        for value in ODD_VALUES:
            self.assertIs(right_lasting(PAID, (5, "a", value)), False)
            self.assertIs(right_lasting(PAID, (5, value, "a")), False)
            self.assertIs(right_lasting(PAID, (value, "a", "a")), False)
        self.assertIs(right_lasting(ring((-5, 5)), (5, "", "a")), False)
        self.assertIs(right_lasting(ring((-5, 5)), (5, "a", "a")), False)

    def test_booleans_are_no_numbers(self):
        self.assertIs(right_lasting(SWING, (False, "", "b")), False)
        self.assertIs(right_lasting(ring((-1, 1)), (True, "", "aa")), False)
        self.assertIs(right_lasting(ring((-1, 1)), (1, "", "aa")), True)

    def test_values_of_other_forms(self):
        for value in ODD_VALUES + (
            [5, "a", "a"], (5, "a"), (5, "a", "a", ""), ("a", "a", 5), (5, ("a", "a")), (5, "a", ["a"]),
            (5, ["a"], "a"), ((5, "a", "a"),), "5aa", (5, "a", ("a",)), ("5", "a", "a"), (None, "a", "a"),
            ((5,), "a", "a"),
        ):
            self.assertIs(right_lasting(PAID, value), False)
            self.assertIs(right_lasting(BARE, value), False)

    def test_machines_without_any(self):
        for machine in (BARE, chain((0, 0)), ring((5, -6))):
            for value in ((0, "", ""), (0, "", "aa"), (None, "", ""), None, (0, "a", "aa"), (6, "a", "aa")):
                self.assertIs(right_lasting(machine, value), False)

    def test_long_rows_and_loops(self):
        self.assertIs(right_lasting(PAID, (5, "a" * 30000, "ab" * 30000)), True)
        self.assertIs(right_lasting(PAID, (5, "a" * 30000, "b" * 60001 + "a" * 60000)), False)


class Drawn(EnergyTestCase):
    def test_against_all_short_rows_and_loops(self):
        for machine in drawn_machines(250, 3) + drawn_machines(60, 2, "abc", 5) + drawn_machines(150, 4, "a", 9):
            needs = [0 - min(tallies) for row, _, tallies in lassos(machine, 2 * machine.stands)
                     if tallies[-1] >= tallies[len(row)]]
            self.check(machine, min(needs) if needs else None)

    def test_loops_behind_ladders(self):
        draw = Draw(3)
        for ladder in drawn_ladders(200):
            at = draw.below(ladder.stands)
            steps = ladder.steps + ((at, "d", at, draw.below(4) - 1),)
            machine = Machine(ladder.stands, tuple(sorted(steps)), ())
            needs = [0 - min(tallies) for row, _, tallies in lassos(machine, ladder.stands)
                     if tallies[-1] >= tallies[len(row)]]
            self.check(machine, min(needs) if needs else None)

    def test_right_lasting_against_its_words(self):
        for machine in drawn_machines(80, 3):
            least = credit(machine)
            for row, loop, tallies in lassos(machine, 5):
                stands = tallies[-1] >= tallies[len(row)] and least is not None and least + min(tallies) >= 0
                for number in (least, 0, 1, 2):
                    self.assertIs(right_lasting(machine, (number, row, loop)), stands and number == least)

    def test_needed_against_rows(self):
        for machine in drawn_machines(300):
            least = bounds(machine)[0]
            if least is None:
                self.assertIsNone(needed(machine))
            else:
                deepest = min(tally for _, _, tally in rows_to(machine, machine.stands))
                self.assertEqual(needed(machine), -deepest)

    def test_what_holds(self):
        for machine in drawn_machines(400, 6, "abc", 9):
            mean = greatest_mean(machine)
            self.assertIs(credit(machine) is None, mean is None or mean[0] < 0)
            if needed(machine) is not None and credit(machine) is not None:
                self.assertLessEqual(credit(machine), needed(machine))
            self.check(machine, credit(machine))

    def test_equal_calls_give_equal_results(self):
        for machine in drawn_machines(30):
            copy = Machine(machine.stands, machine.steps, machine.ends)
            for function in (needed, credit, lasting):
                self.assertEqual(function(machine), function(copy))
                self.assertEqual(function(machine), function(machine))
            self.assertEqual(machine, copy)

    def test_values_are_unchanged(self):
        value = [5, ["a"], {"a": [0]}]
        self.assertIs(right_lasting(PAID, value), False)
        self.assertIs(right_lasting(PAID, (5, value, "a")), False)
        self.assertEqual(value, [5, ["a"], {"a": [0]}])


if __name__ == "__main__":
    unittest.main()
