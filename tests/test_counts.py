import math
import unittest

from samples import BARE, NO_INTEGERS, NO_MACHINES, RUN, SWING, chain, drawn_ladders, drawn_machines, ring, rows_to
from staytallies.counts import count, count_staying, tallies
from staytallies.errors import BadBounds, BadMachine, BadNumber
from staytallies.machines import Machine

BIG = 10 ** 30
OUTERMOST = 10 ** 40
FREE = Machine(1, ((0, "a", 0, 1), (0, "b", 0, -2)), (0,))
# One stand, four letters, of which the great gains never make up for the small ones.
WIDE = Machine(1, ((0, "a", 0, 1), (0, "b", 0, 100), (0, "c", 0, -BIG), (0, "d", 0, BIG)), (0,))
NO_LENGTHS = NO_INTEGERS + (-1, 13, -BIG, BIG, 10 ** 6000)
NO_TALLIES = NO_INTEGERS + (OUTERMOST + 1, -OUTERMOST - 1, 10 ** 6000)
NO_BOUNDS = [(value, 5) for value in NO_TALLIES] + [(-5, value) for value in NO_TALLIES] + [
    (1, 0), (0, -1), (OUTERMOST, -OUTERMOST), (None, True), (True, True), (False, False), ("a", "b"),
]


class Examples(unittest.TestCase):
    def test_the_examples(self):
        free = Machine(1, ((0, "a", 0, 1), (0, "b", 0, -2)), (0,))
        self.assertEqual(
            [tallies(free, 3), count(free, 3, 0), count_staying(free, 3, -2, 2), tallies(Machine(1, (), ()), 0)],
            [[(-6, 1), (-3, 3), (0, 3), (3, 1)], 3, 3, []],
        )


class WrongArguments(unittest.TestCase):
    def test_bad_machine_first_of_all(self):
        for value in NO_MACHINES:
            for length in (0, 12, -1, 13, None, True):
                with self.assertRaises(BadMachine):
                    tallies(value, length)
                for tally in (0, None, OUTERMOST + 1):
                    with self.assertRaises(BadMachine):
                        count(value, length, tally)
                for low, high in ((0, 0), (1, 0), (None, "x")):
                    with self.assertRaises(BadMachine):
                        count_staying(value, length, low, high)

    def assert_bad_number(self, n, function, *arguments):
        with self.assertRaises(BadNumber) as caught:
            function(*arguments)
        self.assertIs(caught.exception.n, n)

    def test_no_lengths(self):
        for value in NO_LENGTHS:
            self.assert_bad_number(value, tallies, FREE, value)
            self.assert_bad_number(value, count, FREE, value, 0)
            self.assert_bad_number(value, count_staying, FREE, value, -1, 1)

    def test_a_wrong_length_goes_ahead_of_all_behind_it(self):
        for value in NO_LENGTHS:
            for other in (None, "x", OUTERMOST + 1, True):
                self.assert_bad_number(value, count, FREE, value, other)
                self.assert_bad_number(value, count_staying, FREE, value, other, 0)
                self.assert_bad_number(value, count_staying, FREE, value, 0, other)
            self.assert_bad_number(value, count_staying, FREE, value, 1, 0)

    def test_no_tallies(self):
        for value in NO_TALLIES:
            self.assert_bad_number(value, count, FREE, 3, value)
            self.assert_bad_number(value, count, BARE, 0, value)

    def test_no_bounds(self):
        for low, high in NO_BOUNDS:
            for length in (0, 3, 12):
                with self.assertRaises(BadBounds):
                    count_staying(FREE, length, low, high)
            with self.assertRaises(BadBounds):
                count_staying(BARE, 1, low, high)

    def test_the_outermost_numbers(self):
        for n in (-OUTERMOST, OUTERMOST, 12 * BIG, -12 * BIG + 1):
            self.assertEqual(count(FREE, 12, n), 0)
        self.assertEqual(count_staying(FREE, 12, -OUTERMOST, OUTERMOST), 2 ** 12)
        self.assertEqual(count_staying(FREE, 0, -OUTERMOST, -OUTERMOST), 0)
        self.assertEqual(count_staying(FREE, 0, OUTERMOST, OUTERMOST), 0)


class Lengths(unittest.TestCase):
    def test_length_nought(self):
        for machine in (FREE, SWING, WIDE, Machine(1, (), (0,))):
            self.assertEqual(tallies(machine, 0), [(0, 1)])
            self.assertEqual([count(machine, 0, n) for n in (-1, 0, 1)], [0, 1, 0])
            self.assertEqual(count_staying(machine, 0, 0, 0), 1)

    def test_length_nought_with_other_ends(self):
        for machine in (BARE, RUN, chain((1, 2))):
            self.assertEqual(tallies(machine, 0), [])
            self.assertEqual(count(machine, 0, 0), 0)
            self.assertEqual(count_staying(machine, 0, -5, 5), 0)

    def test_length_twelve(self):
        wanted = [(2 * at - (12 - at), math.comb(12, at)) for at in range(13)]
        two = Machine(1, ((0, "a", 0, 2), (0, "d", 0, -1)), (0,))
        self.assertEqual(tallies(two, 12), wanted)
        for tally, number in wanted:
            self.assertEqual(count(two, 12, tally), number)
        self.assertEqual(count_staying(two, 12, -12, 24), 2 ** 12)

    def test_four_letters_and_length_twelve(self):
        found = dict(tallies(WIDE, 12))
        self.assertEqual(sum(found.values()), 4 ** 12)
        self.assertEqual(found[12], 1)
        self.assertEqual(found[12 * BIG], 1)
        self.assertEqual(found[11 * BIG + 1], 12)
        self.assertEqual(found[0], math.comb(12, 6))
        self.assertEqual(found[304 - BIG], self.rows_of_wide(304 - BIG))
        self.assertEqual(count(WIDE, 12, 404 + 2 * BIG), self.rows_of_wide(404 + 2 * BIG))
        self.assertEqual(count(WIDE, 12, 11), 0)

    def rows_of_wide(self, tally):
        """How many rows of twelve letters have this tally, by the numbers of letters of each kind."""
        fact = math.factorial
        return sum(
            fact(12) // (fact(a) * fact(b) * fact(c) * fact(12 - a - b - c))
            for a in range(13) for b in range(13 - a) for c in range(13 - a - b)
            if a + 100 * b + BIG * (12 - a - b - 2 * c) == tally
        )

    def test_rows_of_just_this_length_count(self):
        line = chain((1, 2, 3))
        self.assertEqual([tallies(line, length) for length in range(5)], [[], [], [], [(6, 1)], []])
        self.assertEqual([count_staying(line, length, 0, 6) for length in range(5)], [0, 0, 0, 1, 0])
        circle = ring((1, 2, -2))
        self.assertEqual(
            [tallies(circle, length) for length in range(10)],
            [[], [], [(3, 1)], [], [], [(4, 1)], [], [], [(5, 1)], []],
        )


class Ends(unittest.TestCase):
    def test_no_ends(self):
        machine = Machine(2, ((0, "a", 1, 3), (0, "b", 0, 0), (1, "a", 0, -3)), ())
        for length in range(13):
            self.assertEqual(tallies(machine, length), [])
            self.assertEqual(count(machine, length, 0), 0)
            self.assertEqual(count_staying(machine, length, -5, 5), 0)

    def test_an_end_that_is_not_reached(self):
        machine = Machine(2, ((0, "a", 0, 3), (1, "a", 0, -3)), (1,))
        for length in range(13):
            self.assertEqual(tallies(machine, length), [])

    def test_ends_with_equal_tallies_count_together(self):
        machine = Machine(3, ((0, "a", 1, 7), (0, "b", 2, 7), (0, "c", 0, 7), (0, "d", 2, 6)), (1, 2))
        self.assertEqual(tallies(machine, 1), [(6, 1), (7, 2)])
        self.assertEqual(count(machine, 1, 7), 2)
        self.assertEqual(count_staying(machine, 1, 0, 7), 3)

    def test_the_tallies_ascend(self):
        machine = Machine(2, ((0, "a", 0, 5), (0, "b", 1, -BIG), (0, "c", 1, BIG), (1, "a", 1, -7)), (0, 1))
        self.assertEqual(tallies(machine, 1), [(-BIG, 1), (5, 1), (BIG, 1)])
        self.assertEqual(
            tallies(machine, 2), [(-BIG - 7, 1), (-BIG + 5, 1), (10, 1), (BIG - 7, 1), (BIG + 5, 1)]
        )


class Staying(unittest.TestCase):
    def test_rows_that_leave_on_the_way_and_come_back(self):
        there = chain((5, -5))
        self.assertEqual(tallies(there, 2), [(0, 1)])
        self.assertEqual([count_staying(there, 2, 0, high) for high in (0, 4, 5, 6)], [0, 0, 1, 1])
        below = chain((-BIG, BIG, 1))
        self.assertEqual(count_staying(below, 3, -BIG + 1, BIG), 0)
        self.assertEqual(count_staying(below, 3, -BIG, 1), 1)
        self.assertEqual(count_staying(below, 3, -BIG, 0), 0)

    def test_the_row_without_letters_is_a_beginning(self):
        self.assertEqual(count_staying(FREE, 0, 1, 5), 0)
        self.assertEqual(count_staying(FREE, 0, -5, -1), 0)
        up = chain((3,))
        self.assertEqual([count_staying(up, 1, low, 3) for low in (-1, 0, 1, 3)], [1, 1, 0, 0])
        self.assertEqual(count_staying(chain((-3,)), 1, -3, -1), 0)

    def test_paths_that_stay(self):
        walk = Machine(1, ((0, "a", 0, 1), (0, "b", 0, -1)), (0,))
        self.assertEqual([count_staying(walk, length, 0, 12) for length in range(13)],
                         [math.comb(length, length // 2) for length in range(13)])
        self.assertEqual([count_staying(walk, length, 0, 0) for length in range(4)], [1, 0, 0, 0])
        self.assertEqual([count_staying(walk, length, 0, 1) for length in range(13)], [1] * 13)
        self.assertEqual(count_staying(walk, 12, -1, 1), 64)

    def test_only_rows_that_end_well(self):
        walk = Machine(2, ((0, "a", 1, 1), (1, "a", 0, -1), (1, "b", 1, 0)), (1,))
        self.assertEqual([count_staying(walk, length, 0, 1) for length in range(6)], [0, 1, 1, 2, 3, 5])


def slow_rows(machine, length):
    """The lists of all tallies on the way of all rows of this length that end well."""
    places = {row: (stand, tally) for row, stand, tally in rows_to(machine, length)}
    return [
        [places[row[:many]][1] for many in range(length + 1)]
        for row in places if len(row) == length and places[row][0] in machine.ends
    ]


class Drawn(unittest.TestCase):
    def check(self, machine, length):
        rows = slow_rows(machine, length)
        last = [on_the_way[-1] for on_the_way in rows]
        self.assertEqual(tallies(machine, length), [(tally, last.count(tally)) for tally in sorted(set(last))])
        for tally in set(last) | {0, 1, BIG}:
            self.assertEqual(count(machine, length, tally), last.count(tally))
        found = sorted({tally for on_the_way in rows for tally in on_the_way} | {-1, 0, 2})
        for low in found[::3]:
            for high in found[::-3]:
                if low <= high:
                    wanted = sum(low <= min(on_the_way) and max(on_the_way) <= high for on_the_way in rows)
                    self.assertEqual(count_staying(machine, length, low, high), wanted)

    def test_against_all_rows(self):
        for machine in drawn_machines(60, 5, "abc", 3) + drawn_ladders(15):
            for length in range(5):
                self.check(machine, length)

    def test_great_gains_against_all_rows(self):
        for machine in drawn_machines(30, 5, "abcd", BIG):
            for length in range(4):
                self.check(machine, length)

    def test_longer_rows_against_all_rows(self):
        for machine in drawn_machines(15, 4, "ab", 2):
            for length in (8, 9):
                self.check(machine, length)

    def test_count_and_count_staying_fit_tallies(self):
        for machine in drawn_machines(20, 8, "abcd", 3):
            for length in (7, 12):
                found = tallies(machine, length)
                self.assertEqual([count(machine, length, tally) for tally, _ in found], [many for _, many in found])
                total = sum(many for _, many in found)
                self.assertEqual(count_staying(machine, length, -OUTERMOST, OUTERMOST), total)
                self.assertEqual(count_staying(machine, length, -36, 36), total)


class Results(unittest.TestCase):
    def test_kinds_of_results(self):
        found = tallies(FREE, 3)
        self.assertIs(type(found), list)
        for pair in found:
            self.assertIs(type(pair), tuple)
            self.assertEqual([type(number) for number in pair], [int, int])
        for machine in (FREE, BARE):
            self.assertIs(type(count(machine, 3, 0)), int)
            self.assertIs(type(count_staying(machine, 3, 0, 0)), int)

    def test_changed_lists_do_not_matter(self):
        for machine in (FREE, SWING, BARE):
            for length in (0, 1, 4):
                first = tallies(machine, length)
                kept = list(first)
                first.append("x")
                first[0] = None
                self.assertEqual(tallies(machine, length), kept)
                self.assertEqual(count_staying(machine, length, -OUTERMOST, OUTERMOST), sum(many for _, many in kept))

    def test_equal_calls_give_equal_results(self):
        for machine in drawn_machines(10):
            same = Machine(machine.stands, machine.steps, machine.ends)
            self.assertEqual(tallies(machine, 6), tallies(same, 6))
            self.assertEqual(count(machine, 6, 0), count(same, 6, 0))
            self.assertEqual(count_staying(machine, 6, -2, 2), count_staying(same, 6, -2, 2))
            self.assertEqual(machine, same)


if __name__ == "__main__":
    unittest.main()
