import itertools
import unittest

from samples import BARE, NO_MACHINES, RUN, SWING, Draw, chain, drawn_ladders, drawn_machine, drawn_machines, lassos, ring
from staytallies.errors import BadMachine, BadSet, TooMany
from staytallies.extremes import bounds
from staytallies.machines import Machine
from staytallies.mends import mended, mends

BIG = 10 ** 30
FREE = Machine(1, ((0, "a", 0, 1), (0, "b", 0, -2)), (0,))
OFF = Machine(2, ((0, "a", 1, 3), (1, "a", 0, -2)), (0,))
# Two steps from 0 to 1 that do not agree, and one back.
SPLIT = Machine(2, ((0, "a", 1, 1), (0, "b", 1, 2), (1, "c", 0, -1)), ())


def wide(many):
    """A machine with so many steps, each of them from a stand to itself, adding 1."""
    return Machine(4, tuple((at // 4, "abcd"[at % 4], at // 4, 1) for at in range(many)), ())


def fan(many):
    """A machine with so many steps, all of them to the last stand."""
    return Machine(8, tuple((at // 4, "abcd"[at % 4], 7, 0) for at in range(many)), ())


NO_SETS = (
    None, True, False, 0, 1, -1, "", "0", "a", [], [0], [0, 1], {}, {0: 1}, (None,), (True,), (False,), (0, True),
    (False, 1), ("0",), ("a",), (-1,), (2,), (BIG,), (-BIG,), (0, 2), (0, 0), (1, 1), (1, 0), (0, 1, 1), (0, 1, 2),
    ((),), ((0,),), ([0],), ({},), (0, None), (0, "b"), (0, (1,)),
)


class Examples(unittest.TestCase):
    def test_the_examples(self):
        free = Machine(1, ((0, "a", 0, 1), (0, "b", 0, -2)), (0,))
        off = Machine(2, ((0, "a", 1, 3), (1, "a", 0, -2)), (0,))
        self.assertEqual(
            [mends(free), mended(free, (0,)), mends(off), mended(off, (0,)), mended(free, (0, 1))],
            [[(0, 1)], None, [(0,), (1,)], ((0, "a", 1, 2), (1, "a", 0, -2)), ((0, "a", 0, 0), (0, "b", 0, 0))],
        )


class WrongArguments(unittest.TestCase):
    def test_bad_machine_first_of_all(self):
        for value in NO_MACHINES:
            with self.assertRaises(BadMachine):
                mends(value)
            for some in ((), (0,)) + NO_SETS:
                with self.assertRaises(BadMachine):
                    mended(value, some)

    def test_too_many(self):
        for machine in (wide(13), wide(14), wide(16), fan(13), fan(32)):
            with self.assertRaises(TooMany) as caught:
                mends(machine)
            self.assertEqual(caught.exception.most, 12)
            for some in ((), (0,), tuple(range(13))) + NO_SETS:
                with self.assertRaises(TooMany) as caught:
                    mended(machine, some)
                self.assertEqual(caught.exception.most, 12)

    def test_twelve_steps_are_not_too_many(self):
        machine = wide(12)
        self.assertEqual(mends(machine), [(0, 1, 2, 3)])
        self.assertEqual([step[3] for step in mended(machine, tuple(range(12)))][:4], [0] * 4)
        self.assertEqual(len(mended(machine, (0, 1, 2, 3, 11))), 12)

    def test_bad_set(self):
        for machine in (FREE, OFF):
            for value in NO_SETS:
                with self.assertRaises(BadSet):
                    mended(machine, value)

    def test_bad_set_without_steps(self):
        for value in ((0,), (True,), (False,), [], None, 0, (-1,)):
            with self.assertRaises(BadSet):
                mended(BARE, value)
        self.assertEqual(mended(BARE, ()), ())

    def test_the_outermost_places(self):
        machine = wide(12)
        for value in ((12,), (0, 12), (-1, 0), (11, 11), (11, 10), (0, 1, 2, 3, 12)):
            with self.assertRaises(BadSet):
                mended(machine, value)
        self.assertIsNone(mended(machine, (11,)))


class Smallest(unittest.TestCase):
    def test_tallies_that_have_bounds(self):
        for machine in (BARE, SWING, chain((BIG,) * 7), ring((1, 2, -3)), Machine(1, ((0, "a", 0, 0),), ())):
            self.assertEqual(mends(machine), [()])
            self.assertEqual(mended(machine, ()), machine.steps)

    def test_one_step_of_a_ring(self):
        for many in range(1, 9):
            machine = ring((3,) * many)
            self.assertEqual(mends(machine), [(at,) for at in range(many)])
            self.assertIsNone(mended(machine, ()))
            for at in range(many):
                gains = [3] * many
                gains[at] = -3 * (many - 1)
                self.assertEqual([step[3] for step in mended(machine, (at,))], gains)

    def test_gains_above_the_bounds(self):
        machine = ring((BIG,) * 8)
        self.assertEqual(mended(machine, (3,))[3], (3, "a", 4, -7 * BIG))
        self.assertEqual(mended(ring((-BIG,) * 8), (0,))[0], (0, "a", 1, 7 * BIG))

    def test_all_steps_to_the_same_stand(self):
        machine = Machine(1, ((0, "a", 0, 1), (0, "b", 0, 0), (0, "c", 0, -1), (0, "d", 0, 5)), ())
        self.assertEqual(mends(machine), [(0, 2, 3)])
        self.assertEqual([step[3] for step in mended(machine, (0, 2, 3))], [0] * 4)
        self.assertIsNone(mended(machine, (0, 1, 2)))

    def test_steps_side_by_side(self):
        self.assertEqual(mends(SPLIT), [(1,)])
        for some in ((), (0,), (2,)):
            self.assertIsNone(mended(SPLIT, some))
        self.assertEqual(mended(SPLIT, (1,)), ((0, "a", 1, 1), (0, "b", 1, 1), (1, "c", 0, -1)))
        self.assertEqual(mended(SPLIT, (0, 2)), ((0, "a", 1, 2), (0, "b", 1, 2), (1, "c", 0, -2)))

    def test_steps_side_by_side_without_a_way_back(self):
        machine = Machine(2, SPLIT.steps[:2], ())
        self.assertEqual(mends(machine), [()])
        self.assertEqual(mended(machine, ()), machine.steps)
        self.assertEqual(mended(machine, (0,))[1], (0, "b", 1, 2))

    def test_several_rings_that_share_a_stand(self):
        machine = Machine(3, ((0, "a", 1, 1), (0, "b", 2, 2), (1, "a", 0, 1), (2, "a", 0, 1)), ())
        self.assertEqual(mends(machine), [(0, 1), (0, 3), (1, 2), (2, 3)])
        self.assertIsNone(mended(machine, (0, 2)))
        self.assertIsNone(mended(machine, (1, 3)))

    def test_one_step_that_mends_several_rings(self):
        machine = Machine(3, ((0, "a", 1, 5), (1, "a", 0, -2), (1, "b", 2, -1), (2, "a", 0, -1)), ())
        self.assertEqual(mends(machine), [(0,)])
        self.assertEqual(mended(machine, (0,))[0], (0, "a", 1, 2))

    def test_rings_that_are_not_reached_do_not_count(self):
        machine = Machine(3, ((0, "a", 0, 0), (1, "a", 0, 7), (1, "b", 1, 7), (2, "a", 1, 4)), (1,))
        self.assertEqual(mends(machine), [()])
        self.assertEqual(mended(machine, ()), machine.steps)

    def test_steps_between_rings_do_not_count(self):
        machine = Machine(2, ((0, "a", 0, 1), (0, "b", 1, 9), (0, "c", 1, 8), (1, "a", 1, -1)), ())
        self.assertEqual(mends(machine), [(0, 3)])
        steps = mended(machine, (0, 3))
        self.assertEqual([step[3] for step in steps], [0, 9, 8, 0])
        self.assertIsNone(mended(machine, (0, 1, 2)))

    def test_a_set_that_is_larger_than_it_must_be(self):
        for machine, some in ((SWING, (0, 1, 2)), (SWING, (1,)), (OFF, (0, 1)), (FREE, (0, 1)), (SPLIT, (0, 1, 2))):
            self.assertIsNotNone(mended(machine, some))

    def test_the_set_without_steps(self):
        for machine in (RUN, FREE, OFF, SPLIT):
            self.assertIsNone(mended(machine, ()))


def loops_of(machine):
    """For each short loop behind a row how often it takes each of the steps, no such list twice."""
    counts = set()
    for lead, loop, _ in lassos(machine, 2 * machine.stands - 1):
        taken = [0] * len(machine.steps)
        stand = 0
        for at, letter in enumerate(lead + loop):
            place = [step[:2] for step in machine.steps].index((stand, letter))
            taken[place] += at >= len(lead)
            stand = machine.steps[place][2]
        counts.add(tuple(taken))
    return sorted(counts)


def run_off(loops, gains):
    return any(sum(many * gain for many, gain in zip(loop, gains)) != 0 for loop in loops)


def slow_can_mend(machine, loops, some):
    """Tells by trying gains whether some are enough: with three stands and gains up to 1, 2 is the farthest needed."""
    gains = [step[3] for step in machine.steps]
    for tried in itertools.product((0, 1, -1, 2, -2), repeat=len(some)):
        for place, gain in zip(some, tried):
            gains[place] = gain
        if not run_off(loops, gains):
            return True
    return False


class MendsTestCase(unittest.TestCase):
    def check_mended(self, machine, loops, some, wanted):
        steps = mended(machine, some)
        self.assertEqual(steps is not None, wanted, (machine.steps, some))
        if steps is None:
            return
        self.assertIs(type(steps), tuple)
        self.assertEqual([step[:3] for step in steps], [step[:3] for step in machine.steps])
        self.assertTrue(all(type(step) is tuple and type(step[3]) is int for step in steps))
        for place, step in enumerate(steps):
            if place not in some:
                self.assertEqual(step, machine.steps[place])
        self.assertFalse(run_off(loops, [step[3] for step in steps]))


def all_sets(many):
    return [some for size in range(many + 1) for some in itertools.combinations(range(many), size)]


class Drawn(MendsTestCase):
    def test_against_all_sets_and_all_gains(self):
        for machine in drawn_machines(150, 3, "ab", 1):
            loops = loops_of(machine)
            found = [some for some in all_sets(len(machine.steps)) if slow_can_mend(machine, loops, some)]
            self.assertEqual(mends(machine), [some for some in found if len(some) == len(found[0])])
            for some in all_sets(len(machine.steps)):
                self.check_mended(machine, loops, some, some in found)

    def test_all_smallest_sets_against_all_sets(self):
        draw = Draw(41)
        for _ in range(30):
            machine = drawn_machine(draw, 5, "ab", 2)
            loops = loops_of(machine)
            smallest = mends(machine)
            size = len(smallest[0])
            for some in all_sets(len(machine.steps)):
                if len(some) <= size:
                    self.check_mended(machine, loops, some, some in smallest)

    def test_more_than_a_smallest_set_is_enough_too(self):
        draw = Draw(43)
        for machine in drawn_machines(30, 4, "ab", 3):
            loops = loops_of(machine)
            for some in mends(machine):
                more = tuple(at for at in range(len(machine.steps)) if at in some or draw.below(2))
                self.check_mended(machine, loops, more, True)

    def test_great_gains(self):
        for machine in drawn_machines(25, 4, "ab", BIG):
            loops = loops_of(machine)
            smallest = mends(machine)
            self.assertEqual(smallest, sorted(set(smallest)))
            self.assertEqual(smallest == [()], not run_off(loops, [step[3] for step in machine.steps]))
            for some in smallest:
                self.check_mended(machine, loops, some, True)
                for at in range(len(some)):
                    self.check_mended(machine, loops, some[:at] + some[at + 1:], False)

    def test_the_mended_tallies_have_bounds(self):
        for machine in drawn_machines(40, 6, "ab", 5):
            for some in mends(machine):
                better = Machine(machine.stands, mended(machine, some), machine.ends)
                self.assertNotIn(None, bounds(better))
                self.assertEqual(mends(better), [()])

    def test_machines_without_rings(self):
        for machine in drawn_ladders(20, "ab"):
            self.assertEqual(mends(machine), [()])

    def test_kinds_of_results(self):
        for machine in (BARE, FREE, SPLIT, SWING):
            found = mends(machine)
            self.assertIs(type(found), list)
            self.assertTrue(all(type(some) is tuple for some in found))
            self.assertTrue(all(type(place) is int for some in found for place in some))

    def test_changed_lists_do_not_matter(self):
        for machine in (BARE, FREE, OFF, SPLIT):
            first = mends(machine)
            kept = list(first)
            first.append((9,))
            first[0] = None
            self.assertEqual(mends(machine), kept)

    def test_equal_calls_give_equal_results(self):
        for machine in drawn_machines(15, 4, "ab"):
            same = Machine(machine.stands, machine.steps, machine.ends)
            self.assertEqual(mends(machine), mends(same))
            for some in mends(machine):
                self.assertEqual(mended(machine, some), mended(same, some))
            self.assertEqual(machine, same)


if __name__ == "__main__":
    unittest.main()
