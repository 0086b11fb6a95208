import math
import unittest
from fractions import Fraction

from samples import BARE, NO_INTEGERS, NO_MACHINES, ODD_VALUES, RUN, SWING, chain, drawn_machines, lassos, ring
from staytallies.errors import BadMachine
from staytallies.extremes import bounds
from staytallies.machines import Machine, behind, reached
from staytallies.means import greatest_mean, least_mean, mean_paper, right_mean

BIG = 10 ** 30
TWO = Machine(2, ((0, "a", 1, 4), (0, "b", 0, 1), (1, "a", 0, -1)), ())


class Examples(unittest.TestCase):
    def test_the_examples(self):
        two = Machine(2, ((0, "a", 1, 4), (0, "b", 0, 1), (1, "a", 0, -1)), ())
        self.assertEqual(
            [greatest_mean(two), least_mean(two), right_mean(two, ((3, 2), "", "aa", (0, 5))),
             right_mean(two, ((1, 1), "", "b", (0, 5))), right_mean(two, mean_paper(two))],
            [(3, 2), (1, 1), True, False, True],
        )


class WrongArguments(unittest.TestCase):
    def test_bad_machine_first_of_all(self):
        for value in NO_MACHINES:
            for function in (greatest_mean, least_mean, mean_paper):
                with self.assertRaises(BadMachine):
                    function(value)
            for other in (None, ((3, 2), "", "aa", (0, 5)), ()):
                with self.assertRaises(BadMachine):
                    right_mean(value, other)


class MeansTestCase(unittest.TestCase):
    def check(self, machine, least, greatest):
        self.assertEqual((least_mean(machine), greatest_mean(machine)), (least, greatest))
        found = mean_paper(machine)
        if greatest is None:
            self.assertIsNone(found)
        else:
            self.assertEqual((type(found), type(found[0]), found[0]), (tuple, tuple, greatest))
            self.assertIs(right_mean(machine, found), True)


class Means(MeansTestCase):
    def test_no_loops(self):
        for machine in (BARE, Machine(8, (), ()), chain((5, 5, 5)), chain((0,) * 7)):
            self.check(machine, None, None)

    def test_loops_that_no_row_reaches(self):
        self.check(Machine(3, ((0, "a", 1, 1), (2, "a", 2, 5), (2, "b", 0, 0)), ()), None, None)
        self.check(Machine(3, ((0, "a", 1, 1), (1, "c", 1, 2), (2, "a", 2, 5), (2, "b", 2, -9)), ()), (2, 1), (2, 1))

    def test_nought(self):
        for machine in (ring((0,)), ring((5, -5)), ring((BIG, -BIG, 0)), SWING):
            self.check(machine, (0, 1), (0, 1))

    def test_whole_numbers(self):
        self.check(ring((7,)), (7, 1), (7, 1))
        self.check(ring((-7,)), (-7, 1), (-7, 1))
        self.check(ring((BIG,)), (BIG, 1), (BIG, 1))
        self.check(RUN, (2, 1), (2, 1))
        self.check(Machine(1, ((0, "a", 0, 4), (0, "b", 0, -3), (0, "d", 0, 1)), ()), (-3, 1), (4, 1))

    def test_fractions(self):
        self.check(ring((1, 2)), (3, 2), (3, 2))
        self.check(ring((-1, -2)), (-3, 2), (-3, 2))
        self.check(ring((0, 0, 1)), (1, 3), (1, 3))
        self.check(ring((0, 0, -1)), (-1, 3), (-1, 3))
        self.check(ring((0,) * 7 + (-5,)), (-5, 8), (-5, 8))
        self.check(ring((0,) * 7 + (BIG,)), (BIG // 8, 1), (BIG // 8, 1))
        self.check(ring((0,) * 6 + (BIG,)), (BIG, 7), (BIG, 7))

    def test_common_divisors(self):
        self.check(ring((1, 1)), (1, 1), (1, 1))
        self.check(ring((1, 0, 1, 0)), (1, 2), (1, 2))
        self.check(ring((-1, 0, -1, 0)), (-1, 2), (-1, 2))
        self.check(ring((0, 3, 0, 0, 0, 0)), (1, 2), (1, 2))
        self.check(ring((2, 2, 2, -10, 0, 0)), (-2, 3), (-2, 3))

    def test_the_mean_and_not_the_sum_counts(self):
        self.check(Machine(2, ((0, "a", 0, 4), (0, "b", 1, 4), (1, "a", 0, 3)), ()), (7, 2), (4, 1))
        self.check(Machine(2, ((0, "a", 0, 3), (0, "b", 1, 4), (1, "a", 0, 3)), ()), (3, 1), (7, 2))
        self.check(Machine(2, ((0, "a", 0, -4), (0, "b", 1, -4), (1, "a", 0, -3)), ()), (-4, 1), (-7, 2))
        self.check(Machine(2, ((0, "a", 0, -3), (0, "b", 1, -4), (1, "a", 0, -3)), ()), (-7, 2), (-3, 1))

    def test_means_that_are_close(self):
        steps = tuple((at, "a", (at + 1) % 8, BIG - (at == 7)) for at in range(8))
        self.check(Machine(8, steps + ((7, "b", 1, BIG - 1),), ()), (7 * BIG - 1, 7), (8 * BIG - 1, 8))

    def test_rows_that_lead_to_loops_do_not_count(self):
        self.check(Machine(2, ((0, "a", 1, BIG), (1, "a", 1, -1)), ()), (-1, 1), (-1, 1))
        self.check(Machine(3, ((0, "a", 1, -BIG), (1, "a", 2, 1), (2, "a", 1, 2)), ()), (3, 2), (3, 2))

    def test_several_loops_one_behind_the_other(self):
        steps = ((0, "a", 0, 1), (0, "b", 1, -9), (1, "a", 1, 5), (1, "b", 2, 9), (2, "a", 2, -4))
        self.check(Machine(3, steps, ()), (-4, 1), (5, 1))

    def test_the_numbers_are_those_of_all_reached_stands(self):
        numbers = mean_paper(Machine(3, ((0, "a", 1, 1), (1, "c", 1, 2), (2, "a", 2, 5)), ()))[3]
        self.assertEqual([isinstance(number, int) for number in numbers[:2]], [True, True])
        self.assertEqual(len(numbers), 3)


class RightMean(unittest.TestCase):
    def test_right_ones(self):
        for value in (
            ((3, 2), "", "aa", (0, 5)), ((3, 2), "a", "aa", (7, 12)), ((3, 2), "bba", "aaaa", (-3, 2)),
        ):
            self.assertIs(right_mean(TWO, value), True)
        self.assertIs(right_mean(ring((1,)), ((1, 1), "aaa", "aa", (10 ** 50,))), True)

    def test_numbers_that_bar_too_little(self):
        for numbers in ((0, 4), (0, 6), (1, 5), (0, 0), (5, 0), (0, -5)):
            self.assertIs(right_mean(TWO, ((3, 2), "", "aa", numbers)), False)
        machine = Machine(2, ((0, "a", 0, 1), (0, "b", 1, 5), (1, "a", 1, -1)), ())
        for numbers, right in (((0, 4), True), ((0, 99), True), ((0, 3), False), ((-9, -5), True), ((-9, -6), False)):
            self.assertIs(right_mean(machine, ((1, 1), "", "a", numbers)), right)

    def test_numbers_of_another_form(self):
        for numbers in ODD_VALUES + ([0, 5], (0,), (0, 5, 0), (0, 5, None), (5, 0), (0, None), (None, 5), {0: 0, 1: 5}):
            self.assertIs(right_mean(TWO, ((3, 2), "", "aa", numbers)), False)
        for number in NO_INTEGERS:
            self.assertIs(right_mean(ring((0,)), ((0, 1), "", "a", (number,))), False)
            self.assertIs(right_mean(ring((2, 1)), ((3, 2), "", "aa", (0, number))), False)
            self.assertIs(right_mean(ring((1, 2)), ((3, 2), "", "aa", (number, 0))), False)
        self.assertIs(right_mean(ring((0,)), ((0, 1), "", "a", (0,))), True)
        self.assertIs(right_mean(ring((2, 1)), ((3, 2), "", "aa", (0, 1))), True)
        self.assertIs(right_mean(ring((2, 1)), ((3, 2), "", "aa", (0, True))), False)
        self.assertIs(right_mean(ring((2, 1)), ((3, 2), "", "aa", (False, 1))), False)

    def test_numbers_at_stands_that_no_row_leads_to(self):
        machine = Machine(3, ((0, "a", 0, 1), (1, "a", 2, 50), (2, "b", 0, 70)), ())
        for thing in ODD_VALUES:
            self.assertIs(right_mean(machine, ((1, 1), "", "a", (0, thing, None))), True)
            self.assertIs(right_mean(machine, ((1, 1), "", "a", (0, 5, thing))), True)
        self.assertIs(right_mean(machine, ((1, 1), "", "a", (0, None))), False)
        self.assertIs(right_mean(machine, ((1, 1), "", "a", (0,))), False)
        self.assertIs(right_mean(machine, ((1, 1), "", "a", (None, 0, 0))), False)

    def test_loops_of_another_mean(self):
        for mean, lead, loop in (
            ((1, 1), "", "b"), ((3, 2), "", "b"), ((3, 2), "", "aab"), ((4, 3), "", "aab"), ((2, 1), "", "aa"),
            ((3, 1), "", "aa"), ((3, 2), "a", "aba"), ((1, 2), "", "aa"), ((-3, 2), "", "aa"),
        ):
            for numbers in ((0, 5), (0, 0), (0, 10 ** 9)):
                self.assertIs(right_mean(TWO, (mean, lead, loop, numbers)), False)

    def test_what_is_no_row_and_loop(self):
        for lead, loop in (
            ("", ""), ("a", ""), ("", "a"), ("a", "a"), ("ab", "aa"), ("", "aac"), ("x", "aa"), ("", "aa "),
        ):
            self.assertIs(right_mean(TWO, ((3, 2), lead, loop, (0, 5))), False)
        for value in ODD_VALUES:
            self.assertIs(right_mean(TWO, ((3, 2), "", value, (0, 5))), False)
            self.assertIs(right_mean(TWO, ((3, 2), value, "aa", (0, 5))), False)

    def test_means_in_another_form(self):
        for mean in ODD_VALUES + (
            (6, 4), (-3, -2), [3, 2], (3,), (3, 2, 1), (3, 0), (0, 0), 3, (3, 2, None), ("3", "2"), {3: 2}, (True, 2),
        ):
            self.assertIs(right_mean(TWO, (mean, "", "aa", (0, 5))), False)
        for mean, right in (
            ((1, 1), True), ((2, 2), False), ((-1, -1), False), ((True, 1), False), ((1, True), False),
        ):
            self.assertIs(right_mean(ring((1,)), (mean, "", "a", (0,))), right)
        for mean, right in (
            ((0, 1), True), ((0, 2), False), ((0, -1), False), ((0, 0), False), ((False, 1), False), ((0, True), False),
        ):
            self.assertIs(right_mean(ring((0,)), (mean, "", "a", (0,))), right)

    def test_means_below_nought(self):
        for mean, right in (((-1, 3), True), ((1, -3), False), ((-2, 6), False), ((1, 3), False)):
            self.assertIs(right_mean(ring((0, 0, -1)), (mean, "", "aaa", (0, 1, 2))), right)
        self.assertIs(right_mean(ring((0, 0, -1)), ((-1, 3), "", "aaa", (0, 1, 3))), False)
        self.assertIs(right_mean(ring((0, 0, -1)), ((-1, 3), "", "aaa", (0, 0, 2))), False)

    def test_values_of_other_forms(self):
        for value in ODD_VALUES + (
            [(3, 2), "", "aa", (0, 5)], ((3, 2), "", "aa"), ((3, 2), "", "aa", (0, 5), None), (3, 2, "", "aa", (0, 5)),
            ("", "aa", (3, 2), (0, 5)), (((3, 2), "", "aa", (0, 5)),), ((3, 2), ["", "aa"], (0, 5)), "abcd",
            ((3, 2), ("",), "aa", (0, 5)), ((3, 2), "", ["aa"], (0, 5)),
        ):
            self.assertIs(right_mean(TWO, value), False)
            self.assertIs(right_mean(BARE, value), False)

    def test_machines_without_loops(self):
        for machine in (BARE, chain((0, 0))):
            for value in (((0, 1), "", "", (0,)), ((0, 1), "", "a", (0, 0, 0)), (None, "", "", (0,)), None):
                self.assertIs(right_mean(machine, value), False)


class Drawn(MeansTestCase):
    def sample(self):
        return drawn_machines(250, 3) + drawn_machines(60, 2, "abc", 5) + drawn_machines(150, 4, "a", 9)

    def test_against_all_short_rows_and_loops(self):
        for machine in self.sample():
            means = [Fraction(tallies[-1] - tallies[len(row)], len(loop))
                     for row, loop, tallies in lassos(machine, 2 * machine.stands)]
            wanted = [(mean.numerator, mean.denominator) for mean in sorted(means)]
            self.check(machine, wanted[0] if wanted else None, wanted[-1] if wanted else None)

    def test_papers_by_their_words(self):
        for machine in self.sample() + drawn_machines(100, 7, "abcd", BIG):
            found = mean_paper(machine)
            if found is not None:
                (over, under), lead, loop, numbers = found
                self.assertEqual((math.gcd(over, under), under >= 1), (1, True))
                begun, first = behind(machine, lead)
                end, last = behind(machine, lead + loop)
                self.assertEqual(begun, end)
                self.assertEqual(Fraction(last - first, len(loop)), Fraction(over, under))
                stands = reached(machine)
                for begun, _, end, gain in machine.steps:
                    if begun in stands:
                        self.assertGreaterEqual(numbers[end], numbers[begun] + under * gain - over)
                self.assertIs(right_mean(machine, found), True)

    def test_no_paper_of_a_lesser_mean(self):
        for machine in drawn_machines(150, 2, "ab", 1):
            greatest = greatest_mean(machine)
            for row, loop, tallies in lassos(machine, 4):
                mean = Fraction(tallies[-1] - tallies[len(row)], len(loop))
                pair = (mean.numerator, mean.denominator)
                papers = [
                    (pair, row, loop, (number, other)[:machine.stands])
                    for number in range(-2, 3) for other in range(-4, 5)
                ]
                right = [value for value in papers if right_mean(machine, value)]
                self.assertIs(right != [], pair == greatest)

    def test_bounds_just_if_all_loops_have_the_mean_nought(self):
        for machine in drawn_machines(300, 4, "ab", 1):
            means = (least_mean(machine), greatest_mean(machine))
            self.assertIs(None not in bounds(machine), means in ((None, None), ((0, 1), (0, 1))))

    def test_equal_calls_give_equal_results(self):
        for machine in drawn_machines(30):
            copy = Machine(machine.stands, machine.steps, machine.ends)
            for function in (greatest_mean, least_mean, mean_paper):
                self.assertEqual(function(machine), function(copy))
                self.assertEqual(function(machine), function(machine))
            self.assertEqual(machine, copy)

    def test_values_are_unchanged(self):
        value = [(3, 2), ["a"], {"a": [0]}]
        self.assertIs(right_mean(TWO, value), False)
        self.assertIs(right_mean(TWO, (value, "", "aa", value)), False)
        self.assertEqual(value, [(3, 2), ["a"], {"a": [0]}])


if __name__ == "__main__":
    unittest.main()
