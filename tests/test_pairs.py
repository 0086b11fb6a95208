import itertools
import unittest

from samples import BARE, NO_INTEGERS, NO_MACHINES, RUN, SWING, Draw, chain, drawn_machine, ring
from staytallies.errors import BadMachine, BadNumber
from staytallies.extremes import bounds
from staytallies.machines import Machine, behind, is_row
from staytallies.pairs import difference, first_apart, in_step

BIG = 10 ** 30
OUTERMOST = 10 ** 40
STILL = Machine(1, ((0, "a", 0, 0), (0, "b", 0, 0)), (0,))


class Examples(unittest.TestCase):
    def test_the_examples(self):
        swing = Machine(2, ((0, "a", 1, 3), (0, "b", 0, 0), (1, "a", 0, -3)), (0,))
        still = Machine(1, ((0, "a", 0, 0), (0, "b", 0, 0)), (0,))
        self.assertEqual(
            [difference(swing, still), difference(still, swing), in_step(swing, still, 3), in_step(swing, still, 2),
             first_apart(swing, still), first_apart(still, still)],
            [(0, 3), (-3, 0), True, False, "a", None],
        )


class WrongArguments(unittest.TestCase):
    def test_bad_machine_first_of_all(self):
        for value in NO_MACHINES:
            for one, other in ((value, SWING), (SWING, value), (value, value)):
                for function in (difference, first_apart):
                    with self.assertRaises(BadMachine):
                        function(one, other)
                for most in (0, -1, None, True):
                    with self.assertRaises(BadMachine):
                        in_step(one, other, most)

    def test_bad_number(self):
        for value in NO_INTEGERS + (-1, -BIG, OUTERMOST + 1, 10 ** 6000):
            with self.assertRaises(BadNumber) as caught:
                in_step(SWING, STILL, value)
            self.assertIs(caught.exception.n, value)

    def test_the_outermost_numbers(self):
        self.assertIs(in_step(SWING, SWING, 0), True)
        self.assertIs(in_step(SWING, STILL, 0), False)
        self.assertIs(in_step(SWING, STILL, OUTERMOST), True)
        self.assertIs(in_step(RUN, STILL, OUTERMOST), False)


class PairsTestCase(unittest.TestCase):
    def check(self, one, other, wanted):
        """The difference is the wanted one, the other way round too, and in_step tells the same."""
        least, greatest = wanted
        turned = (None if greatest is None else -greatest, None if least is None else -least)
        self.assertEqual(difference(one, other), wanted)
        self.assertEqual(difference(other, one), turned)
        if None in wanted:
            limits = [(OUTERMOST, False)]
        else:
            most = max(-least, greatest)
            limits = [(most, True), (most + 1, True)] + ([(most - 1, False)] if most else [])
        for limit, held in limits:
            self.assertIs(in_step(one, other, limit), held)
            self.assertIs(in_step(other, one, limit), held)


class Difference(PairsTestCase):
    def test_a_machine_and_itself(self):
        for machine in (SWING, RUN, BARE, STILL, chain((BIG,) * 7), ring((1, 2, 3))):
            self.check(machine, machine, (0, 0))

    def test_equal_machines(self):
        self.check(RUN, Machine(RUN.stands, RUN.steps, RUN.ends), (0, 0))
        self.check(RUN, Machine(RUN.stands, RUN.steps, (0,)), (0, 0))

    def test_a_machine_without_steps(self):
        for machine in (SWING, RUN, BARE, STILL, chain((BIG,) * 7)):
            self.check(machine, Machine(3, (), (1,)), (0, 0))

    def test_machines_that_share_no_letter(self):
        self.check(Machine(1, ((0, "a", 0, 5),), ()), Machine(1, ((0, "b", 0, -5),), ()), (0, 0))

    def test_machines_that_share_letters_at_first_alone(self):
        one = Machine(2, ((0, "a", 1, 5), (1, "b", 0, 9)), ())
        other = Machine(2, ((0, "a", 1, 2), (1, "c", 0, 9)), ())
        self.check(one, other, (0, 3))
        self.check(one, Machine(1, ((0, "a", 0, 7),), ()), (-2, 0))

    def test_one_other_gain(self):
        self.check(SWING, Machine(3, ((0, "a", 1, 4), (0, "b", 0, 0), (1, "a", 0, -4)), ()), (-1, 0))
        self.check(SWING, Machine(3, ((0, "a", 1, 4), (0, "b", 0, 0), (1, "a", 0, -3)), ()), (None, 0))
        self.check(SWING, Machine(3, ((0, "a", 1, 2), (0, "b", 0, 0), (1, "a", 0, -3)), ()), (0, None))

    def test_no_least_and_no_greatest(self):
        one = Machine(1, ((0, "a", 0, 1), (0, "b", 0, -1)), ())
        self.check(one, STILL, (None, None))
        self.check(RUN, ring((0,)), (-5, None))

    def test_both_run_off_in_step(self):
        self.check(ring((1,)), ring((1, 1)), (0, 0))
        self.check(ring((1,)), ring((2, 0)), (-1, 0))
        self.check(ring((-3,)), ring((-1, -2, -6)), (-3, 0))
        self.check(ring((BIG,)), ring((-BIG,)), (0, None))

    def test_rings_of_unlike_lengths(self):
        self.check(ring((1, 0, 0)), ring((0, 1)), (None, 1))
        self.check(ring((2, 0, 0, 0, 0, 0, 0)), ring((-1, 0, 0, 0, 0, 0, 0, 1)), (0, None))
        # Seven and eight stands in step come back together only behind 56 letters.
        self.check(ring((8,) + (0,) * 6), ring((7,) + (0,) * 7), (0, None))
        self.check(ring((7,) + (0,) * 6), ring((8,) + (0,) * 7), (-7, 6))

    def test_great_gains(self):
        self.check(chain((BIG,) * 7), chain((-BIG,) * 7), (0, 14 * BIG))
        self.check(chain((BIG,) * 7), chain((BIG,) * 6 + (-BIG,)), (0, 2 * BIG))
        self.check(chain((-BIG,) * 7), chain((BIG, -BIG) * 3 + (BIG,)), (-8 * BIG, 0))

    def test_only_rows_of_both_count(self):
        one = Machine(3, ((0, "a", 1, 1), (0, "b", 2, 50), (2, "a", 2, 9)), ())
        other = Machine(2, ((0, "a", 1, 0), (1, "a", 1, 9)), ())
        self.check(one, other, (0, 1))

    def test_kinds_of_results(self):
        self.assertIs(type(difference(SWING, STILL)), tuple)
        self.assertIs(type(difference(SWING, RUN)), tuple)


class FirstApart(unittest.TestCase):
    def check(self, one, other, row):
        self.assertEqual(first_apart(one, other), row)
        self.assertEqual(first_apart(other, one), row)

    def test_never_apart(self):
        self.check(SWING, SWING, None)
        self.check(BARE, Machine(5, ((1, "a", 1, 3),), (0, 3)), None)
        self.check(ring((1,)), ring((1, 1, 1)), None)
        self.check(ring((1, 2)), ring((1, 2, 1, 2, 1, 2)), None)
        self.check(SWING, Machine(2, SWING.steps, (1,)), None)

    def test_rows_of_just_one(self):
        self.check(SWING, BARE, "a")
        self.check(Machine(1, ((0, "d", 0, 0),), ()), BARE, "d")
        self.check(Machine(1, ((0, "c", 0, 0),), ()), Machine(1, ((0, "d", 0, 0),), ()), "c")
        self.check(chain((1, 1, 1)), chain((1, 1)), "aaa")
        self.check(chain((1,) * 7), ring((1,)), "a" * 8)

    def test_a_step_that_adds_nothing_is_a_row_of_just_one(self):
        self.check(STILL, Machine(1, ((0, "a", 0, 0),), ()), "b")

    def test_unlike_tallies(self):
        self.check(SWING, STILL, "a")
        self.check(SWING, Machine(3, ((0, "a", 1, 3), (0, "b", 0, 1), (1, "a", 0, -3)), ()), "b")
        self.check(SWING, Machine(3, ((0, "a", 1, 3), (0, "b", 0, 0), (1, "a", 0, -2)), ()), "aa")

    def test_one_other_stand(self):
        self.check(SWING, Machine(3, ((0, "a", 1, 3), (0, "b", 0, 0), (1, "a", 1, -3)), ()), "aaa")
        self.check(SWING, Machine(3, ((0, "a", 1, 3), (0, "b", 1, 0), (1, "a", 0, -3)), ()), "ba")

    def test_the_shortest_before_the_least(self):
        one = Machine(2, ((0, "a", 1, 0), (0, "b", 0, 0), (1, "a", 1, 1)), ())
        other = Machine(2, ((0, "a", 1, 0), (0, "b", 0, 1), (1, "a", 1, 0)), ())
        self.check(one, other, "b")

    def test_the_least_of_the_shortest(self):
        one = Machine(3, ((0, "a", 1, 0), (0, "b", 2, 0), (1, "c", 1, 0), (2, "a", 1, 0)), ())
        other = Machine(3, ((0, "a", 1, 0), (0, "b", 2, 0), (1, "c", 1, 1), (2, "a", 1, 1)), ())
        self.check(one, other, "ac")
        one = Machine(1, tuple((0, letter, 0, 0) for letter in "abcd"), ())
        for letters in ("d", "cd", "bcd", "abcd", "bd"):
            other = Machine(1, tuple((0, letter, 0, 5 if letter in letters else 0) for letter in "abcd"), ())
            self.check(one, other, letters[0])

    def test_rings_of_unlike_lengths(self):
        self.check(ring((0,) * 6 + (1,)), ring((0,) * 7 + (1,)), "a" * 7)
        one = Machine(7, tuple((at, "a", (at + 1) % 7, 0) for at in range(7)) + ((6, "b", 0, 0),), ())
        other = Machine(8, tuple((at, "a", (at + 1) % 8, 0) for at in range(8)) + ((7, "b", 0, 1),), ())
        self.check(one, other, "a" * 6 + "b")

    def test_equal_tallies_later_count_no_less(self):
        self.check(ring((1, -1)), ring((0, 0)), "a")


def tweaked(draw, machine):
    """The machine with one step changed or left out, mostly, to come apart late or never."""
    steps = list(machine.steps)
    if steps and draw.below(4):
        at = draw.below(len(steps))
        begun, letter, end, gain = steps[at]
        change = draw.below(3)
        if change == 0:
            steps[at] = (begun, letter, draw.below(machine.stands), gain)
        elif change == 1:
            steps[at] = (begun, letter, end, gain + draw.below(3) - 1)
        else:
            del steps[at]
    return Machine(machine.stands, tuple(steps), ())


def drawn_pairs(many):
    draw = Draw(99)
    for _ in range(many):
        one = drawn_machine(draw, 3, "ab", 1)
        yield one, tweaked(draw, one)
        yield one, drawn_machine(draw, 3, "ab", 1)


def slow_greatest(one, other):
    """The greatest difference of rows of both, None if long rows have a greater one than short ones."""
    layer = {(0, 0): 0}
    found = []
    for _ in range(250):
        found.append(max(layer.values(), default=0))
        longer = {}
        for (begun, start), tally in layer.items():
            for here, letter, end, gain in one.steps:
                for there, same, goal, less in other.steps:
                    if (here, there, letter) == (begun, start, same):
                        place = (end, goal)
                        longer[place] = max(longer.get(place, tally + gain - less), tally + gain - less)
        layer = longer
    # Nine places in step: what a ring of them gains outdoes by then all that was lost on the way.
    return max(found[:9]) if max(found[:9]) == max(found) else None


class Drawn(PairsTestCase):
    def test_differences_against_slow_ones(self):
        for one, other in drawn_pairs(60):
            greatest = slow_greatest(one, other)
            least = slow_greatest(other, one)
            self.check(one, other, (None if least is None else -least, greatest))

    def test_first_apart_against_all_strings(self):
        for one, other in drawn_pairs(60):
            found = None
            # Nine places in step: a shortest string has no place twice, but for its last letter.
            for text in ("".join(letters) for many in range(10) for letters in itertools.product("ab", repeat=many)):
                rows = (is_row(one, text), is_row(other, text))
                if rows in ((True, False), (False, True)) or (
                    rows == (True, True) and behind(one, text)[1] != behind(other, text)[1]
                ):
                    found = text
                    break
            self.assertEqual(first_apart(one, other), found)

    def test_against_bounds(self):
        for one, _ in drawn_pairs(100):
            self.assertEqual(difference(one, STILL), bounds(one))
            self.assertEqual(difference(one, one), (0, 0))
            self.assertIsNone(first_apart(one, one))

    def test_equal_calls_give_equal_results(self):
        for one, other in drawn_pairs(20):
            copies = (Machine(one.stands, one.steps, one.ends), Machine(other.stands, other.steps, other.ends))
            for function in (difference, first_apart):
                self.assertEqual(function(one, other), function(copies[0], copies[1]))
                self.assertEqual(function(one, other), function(one, other))
            self.assertEqual((one, other), copies)


if __name__ == "__main__":
    unittest.main()
