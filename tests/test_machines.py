import itertools
import unittest

from samples import BARE, ODD_VALUES, SWING, chain, drawn_machines, ring, rows_to
from staytallies.errors import (
    BadEnds, BadMachine, BadRow, BadStands, BadSteps, TallyError,
)
from staytallies.machines import Machine, behind, ends_well, is_row, reached

FULL = Machine(
    8,
    tuple((begun, letter, (begun + at) % 8, begun - at) for begun in range(8) for at, letter in enumerate("abcd")),
    (0, 1, 2, 3, 4, 5, 6, 7),
)


class MachineTestCase(unittest.TestCase):
    def check_steps(self, index, stands, steps, ends=()):
        with self.assertRaises(BadSteps) as caught:
            Machine(stands, steps, ends)
        self.assertIs(caught.exception.index, index)


class Parts(MachineTestCase):
    def test_parts_are_properties(self):
        machine = Machine(2, ((0, "a", 1, 3), (1, "d", 0, -3)), (1,))
        self.assertEqual((machine.stands, machine.steps, machine.ends), (2, ((0, "a", 1, 3), (1, "d", 0, -3)), (1,)))
        for name in ("stands", "steps", "ends"):
            self.assertIsInstance(vars(Machine)[name], property)
            with self.assertRaises(AttributeError):
                setattr(machine, name, 1)

    def test_parts_by_name(self):
        self.assertEqual(Machine(ends=(0,), steps=(), stands=1), Machine(1, (), (0,)))

    def test_smallest_and_largest(self):
        self.assertEqual((BARE.stands, BARE.steps, BARE.ends), (1, (), ()))
        self.assertEqual((FULL.stands, len(FULL.steps), len(FULL.ends)), (8, 32, 8))

    def test_equality(self):
        again = Machine(3, ((0, "a", 1, 3), (0, "b", 0, 0), (1, "a", 0, -3)), (0,))
        self.assertTrue(SWING == again)
        self.assertFalse(SWING != again)
        for other in (
            Machine(2, SWING.steps, SWING.ends),
            Machine(3, SWING.steps[:2], SWING.ends),
            Machine(3, ((0, "a", 1, 3), (0, "b", 0, 0), (1, "a", 0, -2)), SWING.ends),
            Machine(3, SWING.steps, ()),
            Machine(3, SWING.steps, (0, 1)),
        ):
            self.assertFalse(SWING == other)
            self.assertTrue(SWING != other)

    def test_equal_to_nothing_of_another_kind(self):
        for other in ODD_VALUES + ((3, SWING.steps, SWING.ends),):
            self.assertFalse(SWING == other)
            self.assertTrue(SWING != other)
            self.assertFalse(other == SWING)

    def test_a_failed_call_changes_nothing(self):
        for parts in ((9, (), ()), (1, None, ()), (1, ((0, "a", 0, 1), 3), ()), (1, (), (1,))):
            machine = Machine(2, ((0, "a", 1, 3),), (1,))
            with self.assertRaises(TallyError):
                machine.__init__(*parts)
            self.assertEqual(machine, Machine(2, ((0, "a", 1, 3),), (1,)))


class WrongParts(MachineTestCase):
    def test_bad_stands(self):
        for stands in ODD_VALUES + (0, -1, 9, -8, 1.0, b"1"):
            if stands != 8 or isinstance(stands, bool):
                for steps, ends in (((), ()), (None, None), ([], [])):
                    with self.assertRaises(BadStands):
                        Machine(stands, steps, ends)

    def test_every_number_of_stands(self):
        for stands in range(1, 9):
            self.assertEqual(Machine(stands, (), ()).stands, stands)

    def test_steps_that_are_no_tuple(self):
        for steps in ODD_VALUES + ([(0, "a", 0, 0)], {(0, "a", 0, 0): 1}, "a"):
            if not isinstance(steps, tuple):
                self.check_steps(None, 1, steps)
                self.check_steps(None, 1, steps, ends=None)

    def test_things_that_are_no_steps(self):
        for step in ODD_VALUES + (
            [0, "a", 0, 0], (0, "a", 0), (0, "a", 0, 0, 0), (0, 0, 0, 0), ("a", 0, 0, 0), (0, "a", 0, "1"), "0a00",
        ):
            self.check_steps(0, 2, (step,))
            self.check_steps(1, 2, ((0, "a", 0, 0), step))
            self.check_steps(1, 2, ((0, "a", 0, 0), step, (1, "b", 0, 0)), ends=None)

    def test_each_part_of_a_step(self):
        stands = (-1, 2, 8, True, False, None, "0", (0,), [0], {}, 10 ** 40)
        for wrong in stands:
            self.check_steps(0, 2, ((wrong, "a", 0, 0),))
            self.check_steps(0, 2, ((0, "a", wrong, 0),))
        for wrong in ("", "e", "A", "ab", "abcd", " ", "a ", "\n", "`", 0, 1, True, None, ("a",), ["a"], {"a": 1}):
            self.check_steps(0, 2, ((0, wrong, 0, 0),))
        for wrong in (True, False, None, "0", "", (), [], {}, 10 ** 30 + 1, -10 ** 30 - 1, 10 ** 40):
            self.check_steps(0, 2, ((0, "a", 0, wrong),))

    def test_the_first_and_the_last_stand_and_letter(self):
        for letter in "abcd":
            for begun, end in itertools.product((0, 7), repeat=2):
                steps = ((begun, letter, end, 0),)
                self.assertEqual(Machine(8, steps, ()).steps, steps)

    def test_the_outermost_gains(self):
        steps = ((0, "a", 0, -10 ** 30), (0, "b", 0, 10 ** 30))
        self.assertEqual(Machine(1, steps, ()).steps, steps)

    def test_order_of_steps(self):
        self.check_steps(1, 2, ((0, "b", 0, 0), (0, "a", 0, 0)))
        self.check_steps(1, 2, ((1, "a", 0, 0), (0, "b", 0, 0)))
        self.check_steps(2, 2, ((0, "a", 0, 0), (1, "b", 0, 0), (0, "c", 0, 0)))
        machine = Machine(2, ((0, "b", 1, 5), (0, "c", 0, -5), (1, "a", 0, 0)), ())
        self.assertEqual(len(machine.steps), 3)

    def test_one_step_by_each_letter(self):
        self.check_steps(1, 2, ((0, "a", 0, 0), (0, "a", 0, 0)))
        self.check_steps(1, 2, ((0, "a", 0, 0), (0, "a", 1, 0)))
        self.check_steps(1, 2, ((0, "a", 0, 0), (0, "a", 0, 1)))
        self.check_steps(1, 2, ((0, "a", 0, 0), (0, "a", 1, 1)))

    def test_the_first_of_several_wrong_steps(self):
        self.check_steps(1, 2, ((0, "b", 0, 0), (0, "a", 0, 0), None))
        self.check_steps(1, 2, ((0, "b", 0, 0), None, (0, "a", 0, 0)))
        self.check_steps(0, 2, (None, None))
        self.check_steps(2, 2, ((0, "a", 0, 0), (0, "b", 0, 0), (0, "b", 0, 0), (0, "a", 0, 0)))

    def test_bad_ends(self):
        for ends in ODD_VALUES + (
            [1], (2,), (-1,), (True,), (False,), (0, True), (1, 0), (0, 0), (1, 1), (0, 1, 1), (0, 1, 2), ("0",),
            (None,), ((0,),), (0, [1]), "01",
        ):
            if ends not in ((), (0,)):
                with self.assertRaises(BadEnds):
                    Machine(2, ((0, "a", 0, 0),), ends)

    def test_good_ends(self):
        for ends in ((), (0,), (1,), (2,), (0, 2), (1, 2), (0, 1, 2)):
            self.assertEqual(Machine(3, (), ends).ends, ends)

    def test_several_wrong_parts(self):
        with self.assertRaises(BadStands):
            Machine(0, None, None)
        with self.assertRaises(BadStands):
            Machine(True, ((0, "a", 9, 0),), (9,))
        self.check_steps(None, 1, None, ends=None)
        self.check_steps(0, 1, (None,), ends=(5,))


class NoMachine(unittest.TestCase):
    def test_bad_machine_first_of_all(self):
        for value in ODD_VALUES + ((3, SWING.steps, SWING.ends),):
            for row in ("", "a", "x", None, 3, ["a"]):
                for function in (is_row, behind, ends_well):
                    with self.assertRaises(BadMachine):
                        function(value, row)
            with self.assertRaises(BadMachine):
                reached(value)


class Rows(unittest.TestCase):
    def test_the_examples(self):
        swing = Machine(3, ((0, "a", 1, 3), (0, "b", 0, 0), (1, "a", 0, -3)), (0,))
        self.assertEqual(
            [behind(swing, "ba"), behind(swing, "aab"), is_row(swing, "ab"), ends_well(swing, "aa"), reached(swing)],
            [(1, 3), (0, 0), False, True, [0, 1]],
        )

    def test_no_letters(self):
        self.assertIs(is_row(BARE, ""), True)
        self.assertEqual(behind(BARE, ""), (0, 0))
        self.assertIs(ends_well(BARE, ""), False)
        self.assertIs(ends_well(Machine(1, (), (0,)), ""), True)

    def test_strings_that_are_no_rows(self):
        for value in ("ab", "c", "e", "A", "ba ", " ba", "b\n", "aba a", "aac", "aaab", "x", "0", "\u00e4", "\ud800"):
            self.assertIs(is_row(SWING, value), False)
            for function in (behind, ends_well):
                with self.assertRaises(BadRow):
                    function(SWING, value)

    def test_values_of_other_kinds(self):
        for value in ODD_VALUES + (0, 1, 97, ("a", "a"), ["b"], {"": 0}, b"a"):
            self.assertIs(is_row(SWING, value), False)
            for function in (behind, ends_well):
                with self.assertRaises(BadRow):
                    function(SWING, value)

    def test_kinds_of_results(self):
        self.assertIs(is_row(SWING, "baab"), True)
        self.assertIs(ends_well(SWING, "baab"), True)
        self.assertIs(ends_well(SWING, "baa" + "a"), False)
        self.assertIs(type(behind(SWING, "a")), tuple)
        self.assertIs(type(reached(SWING)), list)

    def test_outermost_gains(self):
        machine = Machine(1, ((0, "c", 0, -10 ** 30), (0, "d", 0, 10 ** 30)), ())
        self.assertEqual(behind(machine, "ddd"), (0, 3 * 10 ** 30))
        self.assertEqual(behind(machine, "ccd"), (0, -10 ** 30))

    def test_eight_stands(self):
        self.assertEqual(behind(chain((1, 2, 4, 8, 16, 32, 64)), "aaaaaaa"), (7, 127))
        self.assertEqual(behind(ring((1, 2, 4, 8, 16, 32, 64, 128)), "a" * 9), (1, 256))
        self.assertEqual(behind(FULL, "dcba"), (6, -3 + 1 + 4 + 6))

    def test_long_rows(self):
        row = "baa" + "aab" * 20000
        self.assertEqual(behind(SWING, row + "a"), (1, 3))
        self.assertFalse(is_row(SWING, "a" * 40001 + "b"))

    def test_against_all_strings(self):
        for machine in drawn_machines(60):
            rows = {row: (stand, tally) for row, stand, tally in rows_to(machine, 5)}
            for length in range(6):
                for letters in itertools.product("abc", repeat=length):
                    text = "".join(letters)
                    self.assertIs(is_row(machine, text), text in rows)
                    if text in rows:
                        self.assertEqual(behind(machine, text), rows[text])
                        self.assertIs(ends_well(machine, text), rows[text][0] in machine.ends)


class Reached(unittest.TestCase):
    def test_small(self):
        self.assertEqual(reached(BARE), [0])
        self.assertEqual(reached(Machine(8, (), ())), [0])
        self.assertEqual(reached(Machine(2, ((1, "a", 0, 0),), (1,))), [0])

    def test_eight_stands_in_a_row(self):
        self.assertEqual(reached(chain((0,) * 7)), [0, 1, 2, 3, 4, 5, 6, 7])
        down = Machine(8, ((0, "a", 7, 1),) + tuple((at, "a", at - 1, 1) for at in range(2, 8)), ())
        self.assertEqual(reached(down), [0, 1, 2, 3, 4, 5, 6, 7])

    def test_ascending(self):
        machine = Machine(5, ((0, "a", 4, 0), (0, "b", 2, 0), (2, "a", 0, 0), (4, "a", 1, 0)), ())
        self.assertEqual(reached(machine), [0, 1, 2, 4])

    def test_new_lists(self):
        first = reached(SWING)
        first.append(7)
        self.assertEqual(reached(SWING), [0, 1])

    def test_against_rows(self):
        for machine in drawn_machines(300, most_stands=5):
            self.assertEqual(reached(machine), sorted({stand for _, stand, _ in rows_to(machine, 4)}))


class Unchanged(unittest.TestCase):
    def test_arguments_are_unchanged(self):
        value = ["a", ["b"], {"c": 1}]
        self.assertFalse(is_row(SWING, value))
        with self.assertRaises(BadRow):
            behind(SWING, value)
        self.assertEqual(value, ["a", ["b"], {"c": 1}])
        self.assertEqual(SWING, Machine(3, ((0, "a", 1, 3), (0, "b", 0, 0), (1, "a", 0, -3)), (0,)))

    def test_equal_calls_give_equal_results(self):
        for _ in range(2):
            self.assertEqual(behind(SWING, "baa"), (0, 0))
            self.assertFalse(is_row(SWING, "baaab"))
            self.assertEqual(reached(SWING), [0, 1])


if __name__ == "__main__":
    unittest.main()
