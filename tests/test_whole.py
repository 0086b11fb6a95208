"""What holds over the whole program: its general words, its errors, and how its answers fit together."""

import copy
import inspect
import unittest

from samples import BARE, NO_MACHINES, RUN, SWING, chain, drawn_ladders, drawn_machines, ring
from staytallies import bounding, counts, energy, errors, extremes, machines, means, mends, meters, pairs, texts
from staytallies.machines import Machine
from test_files import INTERFACE

BIG = 10 ** 30
FREE = Machine(1, ((0, "a", 0, 1), (0, "b", 0, -2)), (0,))
SINK = Machine(2, ((0, "a", 1, -1), (1, "a", 0, -2), (1, "b", 1, -3)), (1,))
WIDE = Machine(4, tuple((at // 4, "abcd"[at % 4], at // 4, 1) for at in range(13)), ())

# Each function that takes machines first: how many, then right further arguments, then wrong ones.
FUNCTIONS = (
    (machines.is_row, 1, ("a",), (None,)),
    (machines.behind, 1, ("a",), ("x",)),
    (machines.ends_well, 1, ("a",), ([],)),
    (machines.reached, 1, (), ()),
    (extremes.greatest_at, 1, (0,), (True,)),
    (extremes.least_at, 1, (0,), (8,)),
    (extremes.greatest_row, 1, (0,), ("0",)),
    (extremes.least_row, 1, (0,), (-1,)),
    (extremes.bounds, 1, (), ()),
    (extremes.end_bounds, 1, (), ()),
    (bounding.stays, 1, (0, 3), (3, 0)),
    (bounding.bar, 1, (0, 2), (None, 2)),
    (bounding.right_bar, 1, (0, 2, ("row", "a")), (True, 2, None)),
    (bounding.paper, 1, (0, 3), (0, "x")),
    (bounding.right_paper, 1, (0, 3, ((0, 0), (3, 3))), ([], 3, None)),
    (bounding.first_leaving, 1, (-5, 5), (-21, 5)),
    (energy.needed, 1, (), ()),
    (energy.credit, 1, (), ()),
    (energy.lasting, 1, (), ()),
    (energy.right_lasting, 1, ((0, "", "b"),), (None,)),
    (means.greatest_mean, 1, (), ()),
    (means.least_mean, 1, (), ()),
    (means.mean_paper, 1, (), ()),
    (means.right_mean, 1, (((0, 1), "", "b", (0, 3, 0)),), (None,)),
    (pairs.difference, 2, (), ()),
    (pairs.in_step, 2, (5,), (-1,)),
    (pairs.first_apart, 2, (), ()),
    (counts.tallies, 1, (3,), (13,)),
    (counts.count, 1, (3, 0), (-1, None)),
    (counts.count_staying, 1, (3, 0, 3), (True, 3, 0)),
    (mends.mends, 1, (), ()),
    (mends.mended, 1, ((0,),), ([0],)),
    (meters.Meter, 1, (), ()),
    (texts.write, 1, (), ()),
)

# One wrong call for each error, with the fields that it then has.
WRONG_CALLS = (
    ("BadStands", {}, lambda: Machine(0, (), ())),
    ("BadSteps", {"index": None}, lambda: Machine(1, [], ())),
    ("BadSteps", {"index": 1}, lambda: Machine(1, ((0, "a", 0, 1), (0, "a", 0, 1)), ())),
    ("BadEnds", {}, lambda: Machine(1, (), (1,))),
    ("BadMachine", {}, lambda: extremes.bounds(None)),
    ("BadStand", {}, lambda: extremes.greatest_at(SWING, 3)),
    ("BadRow", {}, lambda: machines.behind(SWING, "ab")),
    ("BadLetter", {}, lambda: meters.Meter(SWING).read("c")),
    ("BadNumber", {"n": -1}, lambda: pairs.in_step(SWING, SWING, -1)),
    ("BadNumber", {"n": 13}, lambda: counts.tallies(SWING, 13)),
    ("BadNumber", {"n": None}, lambda: counts.count(SWING, 12, None)),
    ("BadBounds", {}, lambda: bounding.stays(SWING, 1, 0)),
    ("BadBounds", {}, lambda: counts.count_staying(SWING, 12, 1, 0)),
    ("BadSet", {}, lambda: mends.mended(SWING, (3,))),
    ("TooMany", {"most": 12}, lambda: mends.mends(WIDE)),
    ("InvalidText", {"line": 1, "word": 1}, lambda: texts.read("")),
)


def sample_machines():
    return (
        [SWING, RUN, BARE, FREE, SINK, chain((BIG,) * 7), chain((-BIG,) * 7), ring((BIG, -BIG)), ring((-1,))]
        + drawn_machines(80, 4, "ab", 2) + drawn_machines(40, 8, "abcd", BIG) + drawn_machines(60, 5, "a", 1)
        + drawn_ladders(20)
    )


def told(function, *arguments):
    """What a call returns, or the error that it raises, in a form that can be compared."""
    try:
        value = function(*arguments)
    except errors.TallyError as error:
        return (type(error).__name__, vars(error))
    if isinstance(value, meters.Meter):
        return (value.machine.steps, value.row, value.stand, value.tally, value.span, value.can(), len(value))
    return value


class GeneralWords(unittest.TestCase):
    def test_no_function_is_left_out_here(self):
        listed = [name for file in INTERFACE for name in INTERFACE[file] if file != "errors"]
        self.assertEqual(
            sorted([function.__name__ for function, *_ in FUNCTIONS] + ["Machine", "read"]), sorted(listed)
        )

    def test_bad_machine_first_of_all(self):
        for function, many, right, wrong in FUNCTIONS:
            for value in NO_MACHINES:
                taken = [(value,)] if many == 1 else [(value, SWING), (SWING, value), (value, value)]
                for first in taken:
                    for rest in (right, wrong):
                        with self.assertRaises(errors.BadMachine, msg=function.__name__):
                            function(*first, *rest)

    def test_machines_and_values_stay_as_they_are(self):
        for machine in sample_machines()[:60]:
            kept = (machine.stands, machine.steps, machine.ends)
            for function, many, right, wrong in FUNCTIONS:
                for rest in (right, wrong):
                    before = copy.deepcopy(rest)
                    told(function, *(machine,) * many, *rest)
                    self.assertEqual(rest, before)
                    self.assertEqual((machine.stands, machine.steps, machine.ends), kept)

    def test_equal_calls_give_equal_results(self):
        for machine in sample_machines()[:60]:
            for function, many, right, wrong in FUNCTIONS:
                for rest in (right, wrong):
                    same = Machine(machine.stands, machine.steps, machine.ends)
                    first = told(function, *(machine,) * many, *rest)
                    self.assertEqual(told(function, *(same,) * many, *rest), first)
                    self.assertEqual(told(function, *(machine,) * many, *rest), first)

    def test_returned_lists_are_new(self):
        for machine in sample_machines()[:60]:
            for function, rest in ((machines.reached, ()), (counts.tallies, (3,)), (mends.mends, ())):
                if function is mends.mends and len(machine.steps) > 12:
                    continue
                first = function(machine, *rest)
                kept = copy.deepcopy(first)
                first.append("x")
                first[0] = None
                self.assertEqual(function(machine, *rest), kept)
                self.assertIsNot(function(machine, *rest), function(machine, *rest))

    def test_changed_arguments_have_no_effect(self):
        word = ["a"]
        with self.assertRaises(errors.BadNumber) as caught:
            counts.tallies(SWING, word)
        self.assertIs(caught.exception.n, word)
        text = texts.write(SWING)
        machine = texts.read(text)
        text += "\nx"
        self.assertEqual(machine, SWING)

    def test_true_and_false_are_no_integers(self):
        for value in (True, False):
            for error, function, arguments in (
                ("BadStands", Machine, (value, (), ())),
                ("BadSteps", Machine, (2, ((value, "a", 0, 0),), ())),
                ("BadSteps", Machine, (2, ((0, "a", value, 0),), ())),
                ("BadSteps", Machine, (2, ((0, "a", 0, value),), ())),
                ("BadEnds", Machine, (2, (), (value,))),
                ("BadStand", extremes.least_at, (SWING, value)),
                ("BadBounds", bounding.stays, (SWING, value, 5)),
                ("BadBounds", bounding.stays, (SWING, -5, value)),
                ("BadNumber", pairs.in_step, (SWING, SWING, value)),
                ("BadNumber", counts.tallies, (SWING, value)),
                ("BadNumber", counts.count, (SWING, 1, value)),
                ("BadNumber", counts.count_staying, (SWING, value, 0, 5)),
                ("BadBounds", counts.count_staying, (SWING, 1, value, 5)),
                ("BadSet", mends.mended, (SWING, (value,))),
                ("BadLetter", meters.Meter(SWING).read, (value,)),
            ):
                self.assertEqual(told(function, *arguments)[0], error)
            self.assertIs(bounding.right_paper(FREE, -5, 5, ((value, 1),)), False)
            self.assertIs(energy.right_lasting(FREE, (value, "", "a")), False)
            self.assertIs(means.right_mean(ring((0,)), ((value, 1), "", "a", (0,))), False)
            self.assertIs(means.right_mean(ring((0,)), ((0, 1), "", "a", (value,))), False)


class Errors(unittest.TestCase):
    def test_one_wrong_call_for_each_error(self):
        for name, fields, call in WRONG_CALLS:
            with self.assertRaises(errors.TallyError) as caught:
                call()
            error = caught.exception
            self.assertIs(type(error), getattr(errors, name))
            self.assertEqual(type(error).__mro__[1:], (errors.TallyError, ValueError, Exception, BaseException, object))
            self.assertEqual(vars(error), fields)

    def test_no_error_is_left_out_here(self):
        own = {name for name, value in vars(errors).items() if inspect.isclass(value)}
        self.assertEqual({name for name, _, _ in WRONG_CALLS} | {"TallyError"}, own)


class WhatHolds(unittest.TestCase):
    def test_bounds_just_if_all_loops_have_the_mean_nought(self):
        for machine in sample_machines():
            still = {means.greatest_mean(machine), means.least_mean(machine)} <= {None, (0, 1)}
            self.assertEqual(None not in extremes.bounds(machine), still)

    def test_tallies_with_bounds_stay_between_them(self):
        for machine in sample_machines():
            low, high = extremes.bounds(machine)
            if None not in (low, high):
                self.assertTrue(-8 * BIG <= low <= 0 <= high <= 8 * BIG)
                self.assertIs(bounding.stays(machine, low, high), True)
                self.assertIs(bounding.stays(machine, -8 * BIG, 8 * BIG), True)
                if low < high:
                    self.assertIs(bounding.stays(machine, low + 1, high), False)
                    self.assertIs(bounding.stays(machine, low, high - 1), False)
                for length in (0, 3, 5):
                    found = counts.tallies(machine, length)
                    self.assertTrue(all(low <= tally <= high for tally, _ in found))
                    self.assertEqual(
                        counts.count_staying(machine, length, low, high), sum(many for _, many in found)
                    )
            else:
                self.assertIs(bounding.stays(machine, -10 ** 40, 10 ** 40), False)

    def test_needed_is_not_below_credit(self):
        both = 0
        for machine in sample_machines():
            needed, credit = energy.needed(machine), energy.credit(machine)
            if needed is not None and credit is not None:
                both += 1
                self.assertGreaterEqual(needed, credit)
        self.assertGreater(both, 20)

    def test_there_is_a_credit_just_if_the_greatest_mean_is_not_below_nought(self):
        seen = set()
        for machine in sample_machines():
            mean = means.greatest_mean(machine)
            wanted = mean is not None and mean[0] >= 0
            self.assertEqual(energy.credit(machine) is not None, wanted)
            seen.add(None if mean is None else mean[0] >= 0)
        self.assertEqual(seen, {None, True, False})

    def test_a_machine_and_itself_do_not_differ(self):
        for machine in sample_machines():
            self.assertEqual(pairs.difference(machine, machine), (0, 0))
            self.assertIs(pairs.in_step(machine, machine, 0), True)
            self.assertIsNone(pairs.first_apart(machine, machine))

    def test_nothing_to_mend_just_if_there_are_bounds(self):
        seen = set()
        for machine in sample_machines():
            if len(machine.steps) <= 12:
                bounded = None not in extremes.bounds(machine)
                self.assertEqual(mends.mends(machine) == [()], bounded)
                self.assertEqual(mends.mended(machine, ()), machine.steps if bounded else None)
                seen.add(bounded)
        self.assertEqual(seen, {True, False})

    def test_papers_just_if_the_tallies_stay(self):
        for machine in sample_machines():
            for low, high in ((-3, 3), (0, 5), (-20, 20), (1, 2), (-8 * BIG, 8 * BIG)):
                stays = bounding.stays(machine, low, high)
                paper = bounding.paper(machine, low, high)
                bar = bounding.bar(machine, low, high)
                self.assertEqual((paper is not None, bar is None), (stays, stays))
                self.assertEqual(bounding.right_paper(machine, low, high, paper), stays)
                self.assertEqual(bounding.right_bar(machine, low, high, bar), not stays)
                if high <= 20:
                    self.assertEqual(bounding.first_leaving(machine, low, high) is None, stays)

    def test_what_was_written_is_as_the_machine(self):
        for machine in sample_machines():
            same = texts.read(texts.write(machine))
            self.assertEqual(same, machine)
            self.assertEqual(extremes.bounds(same), extremes.bounds(machine))

    def test_meters_fit_the_rows_with_the_greatest_tallies(self):
        for machine in sample_machines():
            for stand in machines.reached(machine):
                row = extremes.greatest_row(machine, stand)
                if row is not None:
                    meter = meters.Meter(machine)
                    for letter in row:
                        meter.read(letter)
                    self.assertEqual((meter.stand, meter.tally), (stand, extremes.greatest_at(machine, stand)))


if __name__ == "__main__":
    unittest.main()
