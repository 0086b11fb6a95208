import unittest

from samples import BARE, NO_MACHINES, ODD_VALUES, RUN, SWING, Draw, chain, drawn_machines, ring
from staytallies.errors import BadLetter, BadMachine
from staytallies.machines import Machine, behind, is_row
from staytallies.meters import Meter

BIG = 10 ** 30
NO_LETTERS = ODD_VALUES + ("", "A", "e", "aa", "ab", "ba", " a", "a ", "a\n", b"a", ("a", "b"), (0, "a"), ["a", "b"])


def state(meter):
    return (meter.row, meter.stand, meter.tally, meter.span, meter.can(), len(meter))


def meter_behind(machine, row):
    meter = Meter(machine)
    for letter in row:
        meter.read(letter)
    return meter


class Examples(unittest.TestCase):
    def test_the_examples(self):
        meter = Meter(Machine(2, ((0, "a", 1, 3), (0, "b", 0, 0), (1, "a", 0, -3)), (0,)))
        self.assertEqual(
            [meter.can(), meter.read("a"), meter.can(), meter.read("a"), meter.span, meter.undo(), meter.tally,
             meter.row],
            ["ab", 3, "a", 0, (0, 3), True, 3, "a"],
        )


class Beginning(unittest.TestCase):
    def test_bad_machine(self):
        for value in NO_MACHINES + (Meter(SWING),):
            with self.assertRaises(BadMachine):
                Meter(value)

    def test_a_new_meter(self):
        for machine, letters in ((SWING, "ab"), (RUN, "a"), (BARE, ""), (ring((5, -5)), "a")):
            meter = Meter(machine)
            self.assertEqual(state(meter), ("", 0, 0, (0, 0), letters, 0))
            self.assertEqual(meter.machine, machine)

    def test_a_bad_machine_leaves_a_meter_as_it_was(self):
        meter = meter_behind(SWING, "ba")
        with self.assertRaises(BadMachine):
            meter.__init__(None)
        self.assertEqual(state(meter), ("ba", 1, 3, (0, 3), "a", 2))
        self.assertEqual(meter.machine, SWING)

    def test_all_is_defined_in_the_class(self):
        defined = vars(Meter)
        for name in ("machine", "row", "stand", "tally", "span"):
            self.assertIs(type(defined[name]), property)
        for name in ("read", "can", "undo", "copy", "__len__"):
            self.assertIn(name, defined)


class Reading(unittest.TestCase):
    def test_letter_by_letter(self):
        meter = Meter(SWING)
        self.assertEqual([meter.read(letter) for letter in "baab"], [0, 3, 0, 0])
        self.assertEqual(state(meter), ("baab", 0, 0, (0, 3), "ab", 4))

    def test_letters_that_cannot_come(self):
        meter = Meter(SWING)
        for letter in "cd":
            with self.assertRaises(BadLetter):
                meter.read(letter)
        meter.read("a")
        for letter in "bcd":
            with self.assertRaises(BadLetter):
                meter.read(letter)
        self.assertEqual(state(meter), ("a", 1, 3, (0, 3), "a", 1))

    def test_values_that_are_no_letters(self):
        for row in ("", "a", "aa", "b"):
            meter = meter_behind(SWING, row)
            before = state(meter)
            for value in NO_LETTERS:
                with self.assertRaises(BadLetter):
                    meter.read(value)
                self.assertEqual(state(meter), before)
            self.assertEqual(meter.read("a"), behind(SWING, row + "a")[1])

    def test_no_letter_can_come(self):
        for meter in (Meter(BARE), meter_behind(chain((2, 3)), "aa")):
            self.assertEqual(meter.can(), "")
            for letter in ("a", "b", "c", "d", "", None):
                with self.assertRaises(BadLetter):
                    meter.read(letter)

    def test_the_letters_ascend(self):
        machine = Machine(2, ((0, "b", 1, 0), (0, "d", 0, 0), (1, "a", 0, 0), (1, "b", 0, 0), (1, "c", 0, 0)), ())
        meter = Meter(machine)
        self.assertEqual(meter.can(), "bd")
        meter.read("b")
        self.assertEqual(meter.can(), "abc")
        self.assertEqual(Meter(Machine(1, tuple((0, letter, 0, 0) for letter in "abcd"), ())).can(), "abcd")

    def test_great_gains(self):
        meter = Meter(ring((BIG, BIG, -BIG)))
        self.assertEqual([meter.read("a") for _ in range(7)], [BIG, 2 * BIG, BIG, 2 * BIG, 3 * BIG, 2 * BIG, 3 * BIG])
        self.assertEqual(meter.span, (0, 3 * BIG))

    def test_long_rows(self):
        meter = Meter(ring((2, -3)))
        for _ in range(3000):
            meter.read("a")
        self.assertEqual(state(meter), ("a" * 3000, 0, -1500, (-1500, 2), "a", 3000))

    def test_ends_do_not_matter(self):
        meter = Meter(Machine(2, SWING.steps[:2], ()))
        self.assertEqual([meter.read("b"), meter.read("a")], [0, 3])


class Spans(unittest.TestCase):
    def test_both_sides(self):
        meter = Meter(ring((4, -9, 2)))
        spans = []
        for _ in range(4):
            meter.read("a")
            spans.append(meter.span)
        self.assertEqual(spans, [(0, 4), (-5, 4), (-5, 4), (-5, 4)])

    def test_the_row_without_letters_is_a_beginning(self):
        self.assertEqual(meter_behind(chain((5, 1)), "aa").span, (0, 6))
        self.assertEqual(meter_behind(chain((-5, -1)), "aa").span, (-6, 0))

    def test_undo_takes_the_span_back(self):
        meter = meter_behind(chain((1, 5, -9)), "aaa")
        spans = [meter.span]
        while meter.undo():
            spans.append(meter.span)
        self.assertEqual(spans, [(-3, 6), (0, 6), (0, 1), (0, 0)])


class Undo(unittest.TestCase):
    def test_nothing_to_take_back(self):
        for meter in (Meter(SWING), Meter(BARE)):
            before = state(meter)
            self.assertIs(meter.undo(), False)
            self.assertIs(meter.undo(), False)
            self.assertEqual(state(meter), before)

    def test_letter_by_letter(self):
        meter = meter_behind(SWING, "aab")
        self.assertIs(meter.undo(), True)
        self.assertEqual(state(meter), ("aa", 0, 0, (0, 3), "ab", 2))
        self.assertIs(meter.undo(), True)
        self.assertEqual(state(meter), ("a", 1, 3, (0, 3), "a", 1))
        self.assertIs(meter.undo(), True)
        self.assertIs(meter.undo(), False)
        self.assertEqual(state(meter), ("", 0, 0, (0, 0), "ab", 0))

    def test_another_letter_in_its_place(self):
        meter = meter_behind(SWING, "ba")
        meter.undo()
        self.assertEqual(meter.read("b"), 0)
        self.assertEqual(state(meter), ("bb", 0, 0, (0, 0), "ab", 2))

    def test_a_letter_that_could_not_come_is_not_taken_back(self):
        meter = meter_behind(SWING, "ba")
        with self.assertRaises(BadLetter):
            meter.read("b")
        self.assertIs(meter.undo(), True)
        self.assertEqual(meter.row, "b")


class Copies(unittest.TestCase):
    def test_a_copy_stands_as_the_meter(self):
        for row in ("", "a", "baab"):
            meter = meter_behind(SWING, row)
            twin = meter.copy()
            self.assertIs(type(twin), Meter)
            self.assertIsNot(twin, meter)
            self.assertEqual(state(twin), state(meter))
            self.assertEqual(twin.machine, meter.machine)

    def test_copies_go_apart(self):
        meter = meter_behind(SWING, "b")
        twin = meter.copy()
        meter.read("a")
        self.assertEqual(state(twin), ("b", 0, 0, (0, 0), "ab", 1))
        twin.read("b")
        twin.read("b")
        self.assertEqual(state(meter), ("ba", 1, 3, (0, 3), "a", 2))
        self.assertEqual(state(twin), ("bbb", 0, 0, (0, 0), "ab", 3))
        while twin.undo():
            pass
        self.assertEqual(state(meter), ("ba", 1, 3, (0, 3), "a", 2))

    def test_a_copy_takes_back_what_the_meter_read(self):
        meter = meter_behind(RUN, "aaa")
        twin = meter.copy()
        for _ in range(3):
            self.assertIs(twin.undo(), True)
        self.assertIs(twin.undo(), False)
        self.assertEqual(state(twin), ("", 0, 0, (0, 0), "a", 0))
        self.assertEqual(state(meter), ("aaa", 1, -1, (-5, 0), "a", 3))

    def test_copies_of_copies(self):
        meter = meter_behind(SWING, "a")
        meters = [meter, meter.copy(), meter.copy().copy()]
        meters[2].undo()
        meters[1].read("a")
        self.assertEqual([one.row for one in meters], ["a", "aa", ""])

    def test_the_same_machine_in_two_meters(self):
        machine = Machine(SWING.stands, SWING.steps, SWING.ends)
        one, other = Meter(machine), Meter(machine)
        one.read("a")
        self.assertEqual(state(other), ("", 0, 0, (0, 0), "ab", 0))
        other.read("b")
        self.assertEqual(state(one), ("a", 1, 3, (0, 3), "a", 1))
        self.assertEqual(machine, SWING)


class Drawn(unittest.TestCase):
    def check(self, machine, meter, row):
        stand, tally = behind(machine, row)
        found = [behind(machine, row[:many])[1] for many in range(len(row) + 1)]
        letters = "".join(letter for letter in "abcd" if is_row(machine, row + letter))
        self.assertEqual(state(meter), (row, stand, tally, (min(found), max(found)), letters, len(row)))

    def test_walks(self):
        draw = Draw(5)
        for machine in drawn_machines(40, 5, "abcd", 3):
            meter = Meter(machine)
            row = ""
            for _ in range(30):
                if draw.below(4) == 0:
                    self.assertIs(meter.undo(), row != "")
                    row = row[:-1]
                else:
                    letter = "abcd"[draw.below(4)]
                    if is_row(machine, row + letter):
                        row += letter
                        self.assertEqual(meter.read(letter), behind(machine, row)[1])
                    else:
                        with self.assertRaises(BadLetter):
                            meter.read(letter)
                self.check(machine, meter, row)
            twin = meter.copy()
            while meter.undo():
                pass
            self.check(machine, twin, row)
            self.check(machine, meter, "")

    def test_kinds_of_results(self):
        meter = meter_behind(SWING, "ba")
        self.assertEqual(
            [type(value) for value in (meter.machine, meter.row, meter.stand, meter.tally, meter.span, meter.can())],
            [Machine, str, int, int, tuple, str],
        )
        self.assertEqual([type(value) for value in (meter.read("a"), meter.undo(), len(meter))], [int, bool, int])

    def test_properties_change_nothing(self):
        meter = meter_behind(SWING, "ba")
        self.assertEqual([state(meter) for _ in range(3)], [("ba", 1, 3, (0, 3), "a", 2)] * 3)


if __name__ == "__main__":
    unittest.main()
