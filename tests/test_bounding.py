import unittest

from samples import (
    BARE, NO_INTEGERS, NO_MACHINES, ODD_VALUES, RUN, SWING, chain, drawn_ladders, drawn_machines, ring, rows_to,
)
from staytallies.bounding import bar, first_leaving, paper, right_bar, right_paper, stays
from staytallies.errors import BadBounds, BadMachine
from staytallies.extremes import bounds
from staytallies.machines import Machine, behind

FREE = Machine(1, ((0, "a", 0, 1), (0, "b", 0, -2)), (0,))
OUTERMOST = 10 ** 40
WIDE = (stays, bar, paper)
CHECKERS = (right_bar, right_paper)
BIG = 10 ** 30


def all_calls(machine, low, high):
    """Each function of the module with these bounds, as calls without arguments."""
    plain = [lambda function=function: function(machine, low, high) for function in WIDE + (first_leaving,)]
    return plain + [lambda function=function: function(machine, low, high, None) for function in CHECKERS]


class Examples(unittest.TestCase):
    def test_the_examples(self):
        swing = Machine(2, ((0, "a", 1, 3), (0, "b", 0, 0), (1, "a", 0, -3)), (0,))
        free = Machine(1, ((0, "a", 0, 1), (0, "b", 0, -2)), (0,))
        self.assertEqual(
            [stays(swing, 0, 3), stays(swing, 0, 2), right_bar(swing, 0, 2, ("row", "bba")),
             right_paper(swing, 0, 3, ((0, 0), (3, 3))), right_paper(swing, 0, 3, paper(swing, 0, 3))],
            [True, False, True, True, True],
        )
        self.assertEqual(
            [right_bar(free, -5, 5, ("ring", "ab", "aba")), right_bar(free, -5, 5, ("ring", "", "ba")),
             right_bar(free, -5, 5, bar(free, -5, 5)), first_leaving(free, -2, 3), first_leaving(swing, 0, 3)],
            [False, True, True, "bb", None],
        )


class WrongArguments(unittest.TestCase):
    def test_bad_machine_first_of_all(self):
        for value in NO_MACHINES:
            for low, high in ((0, 0), (1, 0), (None, None), (True, 10 ** 41)):
                for call in all_calls(value, low, high):
                    with self.assertRaises(BadMachine):
                        call()

    def test_bounds_of_other_kinds(self):
        for value in NO_INTEGERS:
            for low, high in ((value, 5), (-5, value), (value, value)):
                for call in all_calls(SWING, low, high):
                    with self.assertRaises(BadBounds):
                        call()

    def test_low_above_high(self):
        for low, high in ((1, 0), (0, -1), (-4, -5), (5, 4), (20, -20)):
            for call in all_calls(SWING, low, high):
                with self.assertRaises(BadBounds):
                    call()

    def test_the_outermost_bounds(self):
        for low, high in ((-OUTERMOST, OUTERMOST), (-OUTERMOST, -OUTERMOST), (OUTERMOST, OUTERMOST)):
            held = low <= 0 <= high
            self.assertIs(stays(SWING, low, high), held)
            self.assertIs(bar(SWING, low, high) is None, held)
            self.assertIs(paper(SWING, low, high) is None, not held)
            self.assertIs(right_bar(SWING, low, high, ("row", "")), not held)
            self.assertIs(right_paper(SWING, low, high, ((low, high), (low, high), (low, high))), False)

    def test_one_beyond_the_outermost_bounds(self):
        for low, high in ((-OUTERMOST - 1, 0), (0, OUTERMOST + 1), (-OUTERMOST - 1, OUTERMOST + 1)):
            for call in all_calls(SWING, low, high):
                with self.assertRaises(BadBounds):
                    call()

    def test_small_bounds_of_first_leaving(self):
        for low, high in ((-20, 20), (-20, -20), (20, 20), (0, 20), (-20, 0)):
            self.assertEqual(first_leaving(BARE, low, high), None if low <= 0 <= high else "")
        for low, high in ((-21, 0), (0, 21), (-21, 21), (21, 21), (-21, -21)):
            with self.assertRaises(BadBounds):
                first_leaving(BARE, low, high)
            self.assertIs(stays(BARE, low, high), low <= 0 <= high)

    def test_bad_bounds_whatever_the_value_is(self):
        for value in (None, ("row", "a"), ((0, 0), (3, 3), None), 5):
            for function in CHECKERS:
                with self.assertRaises(BadBounds):
                    function(SWING, 1, 0, value)


class Stays(unittest.TestCase):
    def test_at_the_edges(self):
        machine = Machine(3, ((0, "a", 1, 4), (0, "b", 2, -6), (1, "a", 1, 0)), ())
        for low, high, held in (
            (-6, 4, True), (-7, 5, True), (-5, 4, False), (-6, 3, False), (0, 0, False), (-6, -6, False), (4, 4, False),
        ):
            self.assertIs(stays(machine, low, high), held)

    def test_bounds_that_do_not_hold_nought(self):
        for low, high in ((1, 3), (-3, -1), (1, 1), (-1, -1), (3, 3)):
            self.assertIs(stays(SWING, low, high), False)
            self.assertIs(stays(BARE, low, high), False)
        self.assertIs(stays(BARE, 0, 0), True)

    def test_rings_that_run_off_leave_all_bounds(self):
        for machine in (RUN, FREE, ring((1,)), ring((-1,)), ring((0, 5, -4))):
            self.assertIs(stays(machine, -OUTERMOST, OUTERMOST), False)

    def test_rings_and_steps_that_no_row_reaches(self):
        machine = Machine(3, ((0, "a", 0, 0), (1, "a", 1, 1), (2, "b", 0, 9)), ())
        self.assertIs(stays(machine, 0, 0), True)

    def test_great_gains(self):
        machine = chain((BIG,) * 7)
        self.assertIs(stays(machine, 0, 7 * BIG), True)
        self.assertIs(stays(machine, 0, 7 * BIG - 1), False)
        self.assertIs(stays(machine, 1, 7 * BIG), False)


class Bars(unittest.TestCase):
    def test_rows_that_bar(self):
        for row in ("a", "ba", "aaa", "aabba"):
            self.assertIs(right_bar(SWING, 0, 2, ("row", row)), True)
            self.assertIs(right_bar(SWING, -4, 2, ("row", row)), True)
            self.assertIs(right_bar(SWING, 4, 9, ("row", row)), True)

    def test_rows_in_bounds_bar_nothing(self):
        for row in ("", "b", "aa", "baab"):
            self.assertIs(right_bar(SWING, 0, 2, ("row", row)), False)
            self.assertIs(right_bar(SWING, 1, 2, ("row", row)), True)
            self.assertIs(right_bar(SWING, -2, -1, ("row", row)), True)
        self.assertIs(right_bar(SWING, 0, 3, ("row", "a")), False)
        self.assertIs(right_bar(SWING, 3, 3, ("row", "a")), False)

    def test_what_is_no_row(self):
        for row in ("ab", "c", "aab ", "x") + ODD_VALUES:
            self.assertIs(right_bar(SWING, 1, 2, ("row", row)), False)

    def test_rings_that_bar(self):
        for lead, loop in (("", "a"), ("", "b"), ("ab", "ba"), ("b", "bbb")):
            self.assertIs(right_bar(FREE, -5, 5, ("ring", lead, loop)), True)
            self.assertIs(right_bar(FREE, -OUTERMOST, OUTERMOST, ("ring", lead, loop)), True)
        self.assertIs(right_bar(RUN, -9, 9, ("ring", "a", "a")), True)
        self.assertIs(right_bar(RUN, -9, 9, ("ring", "aa", "aaa")), True)
        self.assertIs(right_bar(ring((0, 5, -4)), -9, 9, ("ring", "aa", "aaa")), True)

    def test_rings_with_the_sum_nought(self):
        for lead, loop in (("", "aba"), ("", "aab"), ("ab", "baaaba")):
            self.assertIs(right_bar(FREE, -5, 5, ("ring", lead, loop)), False)
        self.assertIs(right_bar(SWING, 0, 2, ("ring", "", "aa")), False)
        self.assertIs(right_bar(SWING, 0, 2, ("ring", "a", "aa")), False)

    def test_what_is_no_ring(self):
        for lead, loop in (
            ("", ""), ("a", ""), ("", "a"), ("", "aa" + "a" * 9 + "b"), ("b", "a"), ("a", "b"), ("ab", "a"), ("x", "a"),
            ("a", "x"), ("a", "a "),
        ):
            self.assertIs(right_bar(RUN, -5, 5, ("ring", lead, loop)), False)
        self.assertIs(right_bar(ring((0, 5, -4)), -9, 9, ("ring", "", "aa")), False)
        for value in ODD_VALUES:
            self.assertIs(right_bar(RUN, -5, 5, ("ring", "a", value)), False)
            if value not in (("a",), "a"):
                self.assertIs(right_bar(RUN, -5, 5, ("ring", value, "a")), False)

    def test_values_of_other_forms(self):
        for value in ODD_VALUES + (
            ["row", "a"], ("Row", "a"), ("ring", "a"), ("row", "a", "a"), ("row",), ("row", "a", None), ("row", ("a",)),
            ("a", "row"), "row", ("row a",), (("row", "a"),), ("", "a"), (True, "a"), (None, "a"), (0, "a"),
        ):
            self.assertIs(right_bar(SWING, 0, 2, value), False)
        for value in (
            ["ring", "", "a"], ("Ring", "", "a"), ("row", "", "a"), ("ring", "a"), ("ring", "", "a", ""), ("ring",),
            ("ring", ("", "a")), ("", "a", "ring"), (True, "", "a"), (("ring", "", "a"),), ("ring", "", ["a"]),
            ("ring", [], "a"), ("row", "bbb", ""), ("row", "bbb", "bbb"), ("ring", "bbb"),
        ):
            self.assertIs(right_bar(FREE, -5, 5, value), False)

    def test_bar_of_machines_that_stay(self):
        self.assertIsNone(bar(SWING, 0, 3))
        self.assertIsNone(bar(BARE, 0, 0))
        self.assertIsNone(bar(chain((BIG,) * 7), 0, 7 * BIG))

    def test_bar_of_machines_that_leave(self):
        for machine, low, high in (
            (SWING, 0, 2), (SWING, 1, 3), (SWING, -5, -1), (BARE, 1, 1), (RUN, -9, OUTERMOST), (FREE, -9, 9),
            (chain((BIG,) * 7), 0, 7 * BIG - 1), (chain((-BIG,) * 7), 1 - 7 * BIG, 0), (ring((3, -1, -1)), -99, 99),
        ):
            found = bar(machine, low, high)
            self.assertIs(type(found), tuple)
            self.assertIs(right_bar(machine, low, high, found), True)

    def test_bar_on_one_side_alone(self):
        machine = Machine(2, ((0, "a", 1, -4), (0, "b", 1, 4), (0, "c", 1, 1)), ())
        self.assertEqual(bar(machine, -4, 3), ("row", "b"))
        self.assertEqual(bar(machine, -3, 4), ("row", "a"))
        self.assertIsNone(bar(machine, -4, 4))

    def test_bar_of_rings_of_eight_stands(self):
        for over in (1, -1):
            gains = [BIG, BIG, BIG, BIG - 5, -BIG, -BIG, -BIG, -BIG + 5 + over]
            found = bar(ring(gains), -OUTERMOST, OUTERMOST)
            self.assertEqual((found[0], len(found[2])), ("ring", 8))
            self.assertIs(right_bar(ring(gains), -OUTERMOST, OUTERMOST, found), True)
        self.assertIsNone(bar(ring([BIG, BIG, BIG, BIG - 5, -BIG, -BIG, -BIG, -BIG + 5]), 0, 4 * BIG))


class Papers(unittest.TestCase):
    def test_papers_of_the_swing(self):
        for value in (
            ((0, 0), (3, 3), None), ((0, 0), (3, 3), (0, 0)), ((-1, 0), (2, 3), None), ((-1, 2), (2, 5), (-1, 5)),
            ((-1, 2), (2, 5), None),
        ):
            self.assertIs(right_paper(SWING, -1, 5, value), True)

    def test_spans_that_are_changed(self):
        for value in (
            ((0, 0), (3, 4), None), ((0, 0), (2, 3), None), ((0, 0), (0, 0), None), ((0, 1), (3, 3), None),
            ((-1, 0), (3, 3), None), ((1, 2), (3, 5), None), ((-1, -1), (2, 3), None), ((0, 0), (4, 4), None),
        ):
            self.assertIs(right_paper(SWING, -1, 5, value), False)

    def test_spans_left_out(self):
        for value in (
            ((0, 0), None, None), (None, (3, 3), None), (None, None, None), ((0, 0), (3, 3)), ((0, 0),), (),
            ((0, 0), (3, 3), None, None), ((0, 0), None, (3, 3)),
        ):
            self.assertIs(right_paper(SWING, -1, 5, value), False)

    def test_spans_beyond_the_bounds(self):
        value = ((-1, 2), (2, 5), (-1, 5))
        self.assertIs(right_paper(SWING, -1, 5, value), True)
        for low, high in ((0, 5), (-1, 4), (0, 4), (-1, 0), (2, 5), (1, 5)):
            self.assertIs(right_paper(SWING, low, high, value), False)
        self.assertIs(right_paper(SWING, 0, 3, ((0, 0), (3, 3), (0, 4))), False)
        self.assertIs(right_paper(SWING, 0, 3, ((0, 0), (3, 3), (-1, 3))), False)
        self.assertIs(right_paper(SWING, 0, 3, ((0, 0), (3, 3), (0, 3))), True)

    def test_the_span_of_the_stand_nought(self):
        for span, right in (
            ((0, 0), True), ((-2, 0), True), ((0, 2), True), ((-2, 2), True), ((1, 2), False), ((-2, -1), False),
            ((-3, 0), False), ((0, 3), False), (None, False), ((2, -2), False),
        ):
            self.assertIs(right_paper(BARE, -2, 2, (span,)), right)
        for low, high, span in ((1, 2, (1, 2)), (-2, -1, (-2, -1)), (1, 2, (0, 2)), (1, 2, None)):
            self.assertIs(right_paper(BARE, low, high, (span,)), False)

    def test_a_span_at_a_stand_that_no_row_leads_to(self):
        machine = Machine(3, ((0, "a", 0, 0), (1, "a", 2, 1), (2, "a", 2, 1)), ())
        for value, right in (
            (((0, 0), None, None), True), (((0, 0), (0, 0), (1, 1)), False), (((0, 0), (0, 0), None), False),
            (((0, 0), None, (1, 1)), False), (((-3, 3), None, None), True),
        ):
            self.assertIs(right_paper(machine, -5, 5, value), right)
        machine = Machine(3, ((0, "a", 0, 0), (1, "a", 2, 1)), ())
        for value, right in (
            (((0, 0), (0, 0), (1, 1)), True), (((0, 0), (0, 0), None), False), (((0, 0), None, (1, 1)), True),
            (((0, 0), (0, 1), (1, 1)), False), (((0, 0), (0, 1), (0, 2)), True), (((0, 0), (3, 1), (0, 9)), False),
        ):
            self.assertIs(right_paper(machine, -5, 5, value), right)

    def test_spans_of_other_kinds(self):
        for span in ODD_VALUES + (
            [0, 0], (0,), (0, 0, 0), (False, 0), (0, False), (0, True), ("0", "0"), (None, 0), (0, None), (1, 0), "00",
            ((0,), (0,)), [(0, 0)], {0: 0, 1: 0},
        ):
            self.assertIs(right_paper(BARE, -2, 2, (span,)), False)
            self.assertIs(right_paper(SWING, -2, 3, ((0, 0), (3, 3), span)), span is None)

    def test_values_of_other_kinds(self):
        for value in ODD_VALUES + ([(0, 0), (3, 3), None], "abc", (0, 0, 0), {0: (0, 0), 1: (3, 3), 2: None}):
            self.assertIs(right_paper(SWING, 0, 3, value), False)
        for value in ODD_VALUES:
            self.assertIs(right_paper(BARE, 0, 0, value), False)

    def test_paper(self):
        for machine, low, high in (
            (SWING, 0, 3), (SWING, -9, 9), (SWING, -OUTERMOST, OUTERMOST), (BARE, 0, 0), (ring((3, -1, -2)), 0, 3),
            (chain((BIG,) * 7), 0, 7 * BIG), (Machine(8, ((0, "a", 7, -5),), ()), -5, 0),
        ):
            found = paper(machine, low, high)
            self.assertIs(type(found), tuple)
            self.assertIs(right_paper(machine, low, high, found), True)

    def test_no_paper(self):
        for machine, low, high in (
            (SWING, 0, 2), (SWING, 1, 3), (SWING, -5, -1), (BARE, 1, 1), (RUN, -9, OUTERMOST), (FREE, -9, 9),
        ):
            self.assertIsNone(paper(machine, low, high))


class FirstLeaving(unittest.TestCase):
    def test_bounds_that_do_not_hold_nought(self):
        for machine in (SWING, RUN, BARE, FREE):
            for low, high in ((1, 5), (-5, -1), (3, 3), (-20, -20)):
                self.assertEqual(first_leaving(machine, low, high), "")

    def test_the_shortest_row_before_the_least(self):
        machine = Machine(1, ((0, "a", 0, 1), (0, "b", 0, 2)), ())
        self.assertEqual(first_leaving(machine, 0, 0), "a")
        self.assertEqual(first_leaving(machine, 0, 1), "b")
        self.assertEqual(first_leaving(machine, -5, 2), "ab")
        self.assertEqual(first_leaving(machine, -5, 3), "bb")
        self.assertEqual(first_leaving(machine, -5, 20), "a" + "b" * 10)

    def test_the_least_of_the_shortest_rows(self):
        machine = Machine(3, ((0, "a", 2, 0), (0, "b", 1, 1), (1, "a", 0, 9), (2, "b", 0, 9)), ())
        self.assertEqual(first_leaving(machine, -5, 5), "ab")
        self.assertEqual(first_leaving(machine, -5, 9), "ba")
        machine = Machine(3, ((0, "a", 2, 0), (0, "b", 1, 1), (1, "a", 0, 9), (2, "b", 0, 8)), ())
        self.assertEqual(first_leaving(machine, -5, 8), "ba")

    def test_leaving_on_either_side(self):
        self.assertEqual(first_leaving(FREE, -1, 9), "b")
        self.assertEqual(first_leaving(FREE, -9, 1), "aa")
        self.assertEqual(first_leaving(FREE, -20, 20), "b" * 11)
        self.assertEqual(first_leaving(RUN, -5, -5 + 12), "a" * 8)
        self.assertEqual(first_leaving(RUN, -4, 20), "a")

    def test_a_row_that_comes_back_leaves_too(self):
        machine = ring((5, -5))
        self.assertEqual(first_leaving(machine, 0, 4), "a")
        self.assertIsNone(first_leaving(machine, 0, 5))

    def test_none(self):
        self.assertIsNone(first_leaving(SWING, 0, 3))
        self.assertIsNone(first_leaving(SWING, -20, 20))
        self.assertIsNone(first_leaving(Machine(2, ((1, "a", 1, 1),), ()), 0, 0))

    def test_long_rows(self):
        gains = (1, 0, 0, 0, 0, 0, 0, 0)
        self.assertEqual(first_leaving(ring(gains), -20, 20), "a" * (20 * 8 + 1))
        self.assertEqual(first_leaving(ring((BIG, -BIG)), -20, 20), "a")
        gains = (20, 0, 0, 0, 0, 0, 0, -19)
        self.assertEqual(first_leaving(ring(gains), 0, 20), "a" * 9)

    def test_against_all_short_rows(self):
        for machine in drawn_machines(200, most_stands=2):
            rows = rows_to(machine, 6)
            for low, high in ((0, 0), (-1, 0), (0, 1), (-1, 1), (0, 2)):
                # All places of such a row but the last one are unlike and in bounds: there are at most six.
                leaving = [row for row, _, tally in rows if not low <= tally <= high]
                self.assertEqual(first_leaving(machine, low, high), leaving[0] if leaving else None)

    def test_a_first_row_just_if_they_do_not_stay(self):
        for machine in drawn_machines(300, most_stands=5, letters="abcd") + drawn_ladders(100):
            for low, high in ((0, 3), (-20, 20), (-7, 1), (1, 2)):
                row = first_leaving(machine, low, high)
                self.assertIs(row is None, stays(machine, low, high))
                if row is not None:
                    self.assertFalse(low <= behind(machine, row)[1] <= high)
                    for many in range(len(row)):
                        self.assertTrue(low <= behind(machine, row[:many])[1] <= high)


def bars(machine, low, high, value):
    """Whether a tuple that bar tells bars, by the words of the document."""
    if value[0] == "row":
        return len(value) == 2 and not low <= behind(machine, value[1])[1] <= high
    word, lead, loop = value
    begun, tally = behind(machine, lead)
    end, sum_behind = behind(machine, lead + loop)
    return word == "ring" and loop != "" and begun == end and sum_behind != tally


class Drawn(unittest.TestCase):
    def test_what_is_told_is_right(self):
        held = 0
        machines = drawn_machines(300) + drawn_machines(200, 4, "a") + drawn_machines(100, 6, "abc", 0)
        for machine in machines + drawn_ladders(200):
            for low, high in ((0, 0), (-2, 2), (-9, 9), (0, 9), (1, 9), (-9, -1), (-OUTERMOST, OUTERMOST)):
                least, greatest = bounds(machine)
                inside = least is not None and greatest is not None and low <= least and greatest <= high
                self.assertIs(stays(machine, low, high), inside)
                found_bar = bar(machine, low, high)
                found_paper = paper(machine, low, high)
                self.assertIs(found_bar is None, inside)
                self.assertIs(found_paper is None, not inside)
                if inside:
                    self.assertIs(right_paper(machine, low, high, found_paper), True)
                    held += 1
                else:
                    self.assertTrue(bars(machine, low, high, found_bar))
                    self.assertIs(right_bar(machine, low, high, found_bar), True)
        self.assertGreater(held, 300)

    def test_no_bar_of_a_machine_that_stays(self):
        for machine in drawn_machines(200, 3, "ab", 1) + drawn_ladders(50, "ab"):
            least, greatest = bounds(machine)
            if least is not None and greatest is not None:
                for row, _, _ in rows_to(machine, 5):
                    self.assertIs(right_bar(machine, least, greatest, ("row", row)), False)
                    for at in range(len(row)):
                        self.assertIs(right_bar(machine, least, greatest, ("ring", row[:at], row[at:])), False)

    def test_no_paper_of_a_machine_that_leaves(self):
        spans = [None] + [(least, most) for least in range(-1, 3) for most in range(least, 3)]
        for machine in drawn_machines(60, 2, "ab", 1):
            papers = [(span,) for span in spans]
            if machine.stands == 2:
                papers = [(span, other) for span in spans for other in spans]
            right = [value for value in papers if right_paper(machine, -1, 2, value)]
            self.assertIs(right == [], not stays(machine, -1, 2))

    def test_equal_calls_give_equal_results(self):
        for machine in drawn_machines(20):
            copy = Machine(machine.stands, machine.steps, machine.ends)
            for function in WIDE + (first_leaving,):
                self.assertEqual(function(machine, -3, 4), function(copy, -3, 4))
                self.assertEqual(function(machine, -3, 4), function(machine, -3, 4))
            self.assertEqual(machine, copy)

    def test_values_are_unchanged(self):
        value = ["row", ["a"], {"b": [0, 0]}]
        for function in CHECKERS:
            self.assertIs(function(SWING, 0, 2, value), False)
        self.assertEqual(value, ["row", ["a"], {"b": [0, 0]}])


if __name__ == "__main__":
    unittest.main()
