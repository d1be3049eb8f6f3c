"""Points [27] and [28]: counts, fractions, and growth."""

import itertools
import unittest

from gatewords.errors import BadFraction, BadMachine, BadNumber, TooMany
from gatewords.leastforms import least_form
from gatewords.machines import Machine, goal, takes
from gatewords.rowcounts import count_rows, count_up_to, fraction_counts, row_fraction
from gatewords.rowgrowth import (fork_paper, growth_of, how_many, is_finite, is_fork_paper, is_round_paper,
                                 round_paper, row_lengths)
from gatewords.rowmakers import all_rows, free_rows, just_rows, no_rows
from tests.helpers import ODD_VALUES, chain, chance_machine, language, refused, ring, rows

WORDS = free_rows(2, [(0, 1), (1, 0)])


def some_machines():
    return [chance_machine(seed, 1 + seed % 3, 1 + seed % 7, (0.3, 0.6, 0.8)[seed % 3], (0.2, 0.5)[seed % 2])
            for seed in range(200)]


def ladder(steps, size):
    """So many rounds of size states, one behind the other, of two letters."""
    ways = []
    for step in range(steps):
        for at in range(size):
            back = step * size + (at + 1) % size
            on = (step + 1) * size if at == 0 and step + 1 < steps else None
            ways.append([back, on])
    return Machine(2, ways, [(steps - 1) * size])


def zeros_at_one(under):
    """How many times 1 - z divides a row of numbers."""
    many = 0
    while sum(under) == 0:
        under = list(itertools.accumulate(under))[:-1]
        many += 1
    return many


class Counts(unittest.TestCase):

    def test_by_rows(self):
        for machine in some_machines():
            taken = language(machine, 5)
            for length in range(6):
                self.assertEqual(count_rows(machine, length), len([row for row in taken if len(row) == length]))
                self.assertEqual(count_up_to(machine, length), len([row for row in taken if len(row) <= length]))

    def test_lengths(self):
        self.assertEqual(count_rows(all_rows(169), 1000), 169 ** 1000)
        self.assertEqual(count_up_to(all_rows(3), 1000), (3 ** 1001 - 1) // 2)
        self.assertEqual(count_rows(machine=WORDS, length=1000), 2)
        self.assertEqual(count_up_to(machine=WORDS, length=1000), 2001)
        self.assertEqual(count_rows(no_rows(2), 0), 0)
        self.assertEqual(count_rows(all_rows(2), 0), 1)
        for function in (count_rows, count_up_to):
            for length in [None, True, -1, 1001, "1", 1.0]:
                refused(self, BadNumber("length"), function, WORDS, length)
            for thing in ODD_VALUES:
                refused(self, BadMachine(None), function, thing, None)


class Fractions(unittest.TestCase):

    def test_of_the_document(self):
        self.assertEqual(row_fraction(WORDS), ((1, 1), (1, -1)))
        self.assertEqual([count_rows(WORDS, k) for k in range(5)], [1, 2, 2, 2, 2])
        self.assertEqual(fraction_counts((1, 1), (1, -1), 4), [1, 2, 2, 2, 2])

    def test_some(self):
        self.assertEqual(row_fraction(no_rows(2)), ((), (1,)))
        self.assertEqual(row_fraction(just_rows(2, [()])), ((1,), (1,)))
        self.assertEqual(row_fraction(all_rows(169)), ((1,), (1, -169)))
        self.assertEqual(row_fraction(just_rows(2, [(0, 1), (1, 0), (0,)])), ((0, 1, 2), (1,)))
        self.assertEqual(row_fraction(ring(4, (1, 3))), ((0, 1), (1, 0, -1)))
        # The numbers of Fibonacci, of all rows in which no 1 stands beside another one.
        self.assertEqual(row_fraction(free_rows(2, [(1, 1)])), ((1, 1), (1, -1, -1)))

    def test_series(self):
        for machine in some_machines():
            over, under = row_fraction(machine)
            counts = [count_rows(machine, length) for length in range(41)]
            self.assertEqual(fraction_counts(over, under, 40), counts)
            self.assertEqual(under[0], 1)
            self.assertTrue(under[-1])
            self.assertTrue(not over or over[-1])
            self.assertTrue(all(type(number) is int for number in over + under))
            self.assert_shortest(over, under, counts)

    def assert_shortest(self, over, under, counts):
        """No recurrence of fewer numbers: the lines of counts are independent."""
        size = max(len(over), len(under) - 1)
        prime = 2 ** 61 - 1
        lines = [[counts[i + j] % prime for j in range(size)] for i in range(size)]
        for k in range(size):
            at = next((i for i in range(k, size) if lines[i][k]), None)
            self.assertIsNotNone(at)
            lines[k], lines[at] = lines[at], lines[k]
            turn = pow(lines[k][k], -1, prime)
            for i in range(k + 1, size):
                times = lines[i][k] * turn % prime
                lines[i] = [(a - times * b) % prime for a, b in zip(lines[i], lines[k])]

    def test_as_many_rows_as_equal_fractions(self):
        machines = [machine for machine in some_machines() if machine.letters == 2][:40]
        for one in machines:
            for other in machines:
                same = all(count_rows(one, k) == count_rows(other, k) for k in range(17))
                self.assertEqual(row_fraction(one) == row_fraction(other), same)

    def test_many_states(self):
        self.assertEqual(row_fraction(ring(200)), ((1,), (1,) + (0,) * 199 + (-1,)))
        refused(self, TooMany(200), row_fraction, ring(201))
        refused(self, TooMany(200), row_fraction, chain(200))
        self.assertEqual(row_fraction(chain(199)), ((0,) * 199 + (1,), (1,)))
        # It is the least form that counts.
        self.assertEqual(row_fraction(ring(400, (0, 200))), row_fraction(ring(200)))

    def test_large_numbers(self):
        machine = chance_machine(7, 169, 60, 0, 0.5)
        over, under = row_fraction(machine)
        self.assertEqual(len(under), 61)
        counts = fraction_counts(over, under, 200)
        for length in (0, 1, 61, 150, 200):
            self.assertEqual(counts[length], count_rows(machine, length))

    def test_fraction_counts(self):
        self.assertEqual(fraction_counts((), (1,), 3), [0, 0, 0, 0])
        self.assertEqual(fraction_counts((5, -3), (1,), 0), [5])
        self.assertEqual(fraction_counts((1, 0), (1, -2, 0), 5), [1, 2, 4, 8, 16, 32])
        self.assertEqual(fraction_counts(over=(1,), under=(1, 1), most=3), [1, -1, 1, -1])
        self.assertEqual(len(fraction_counts((1,), (1, -1), 1000)), 1001)
        self.assertEqual(fraction_counts((1, 2, 3), (1,) + (0,) * 300 + (-7,), 2), [1, 2, 3])

    def test_errors(self):
        for thing in ODD_VALUES:
            refused(self, BadMachine(None), row_fraction, thing)
        for over, under in [([], (1,)), ((), [1]), ((), ()), ((), (0, 1)), ((), (2,)), ((), (True,)), ((True,), (1,)),
                            ((1.0,), (1,)), ((), (1, 1.0)), ((), (-1,)), (None, (1,)), ((), None), (("1",), (1,))]:
            refused(self, BadFraction("x"), fraction_counts, over, under, None)
        for most in [None, True, -1, 1001, "1"]:
            refused(self, BadNumber("most"), fraction_counts, (), (1,), most)


class Growth(unittest.TestCase):

    def test_finite(self):
        for machine in some_machines():
            states = len(machine.ways)
            finite = not any(count_rows(machine, k) for k in range(states, 2 * states + 1))
            self.assertIs(is_finite(machine), finite)
            self.assertEqual(how_many(machine), count_up_to(machine, states) if finite else None)
            lengths = [k for k in range(3 * states) if count_rows(machine, k)]
            wanted = (lengths[0], lengths[-1] if finite else None) if lengths else None
            self.assertEqual(row_lengths(machine), wanted)

    def test_growth(self):
        for machine in some_machines():
            power = growth_of(machine)
            self.assertEqual(power, growth_of(least_form(machine)))
            _, under = row_fraction(machine)
            if power is not None:
                self.assertEqual(zeros_at_one(under), power)
                most = count_up_to(machine, 300)
                self.assertLessEqual(most, 10 ** 4 * 300 ** power)
                if power:
                    self.assertGreaterEqual(most * 10 ** 4, 300 ** power)
            else:
                self.assertGreater(count_up_to(machine, 1000), 10 ** 18)

    def test_some(self):
        self.assertEqual(growth_of(machine=WORDS), 1)
        self.assertEqual(growth_of(no_rows(2)), 0)
        self.assertEqual(growth_of(just_rows(2, [()])), 0)
        self.assertIsNone(growth_of(all_rows(2)))
        self.assertEqual(growth_of(all_rows(1)), 1)
        for steps in range(1, 6):
            for size in range(1, 4):
                self.assertEqual(growth_of(ladder(steps, size)), steps)
        self.assertIs(is_finite(machine=no_rows(1)), True)
        self.assertEqual(how_many(machine=no_rows(1)), 0)
        self.assertIsNone(row_lengths(machine=no_rows(1)))
        self.assertEqual(row_lengths(just_rows(2, [(0,), (1, 1, 1)])), (1, 3))
        self.assertEqual(row_lengths(free_rows(1, [])), (0, None))
        self.assertEqual(row_lengths(chain(1999)), (1999, 1999))
        wide = Machine(169, [[k + 1] * 169 for k in range(300)] + [[None] * 169], [300])
        self.assertEqual(how_many(wide), 169 ** 300)
        # Rounds that no row meets, or that lead to no end, count nothing.
        aside = Machine(1, [[1], [None], [2]], [1, 2])
        self.assertEqual((is_finite(aside), how_many(aside), growth_of(aside)), (True, 1, 0))
        lost = Machine(2, [[1, 0], [1, 1]], [0])
        self.assertEqual((growth_of(lost), round_paper(lost)), (1, ((), (1,), ())))

    def test_papers(self):
        for machine in some_machines():
            again, fork = round_paper(machine), fork_paper(machine)
            self.assertEqual(again is None, is_finite(machine))
            self.assertEqual(fork is None, growth_of(machine) is not None)
            self.assertTrue(again is None or is_round_paper(machine, again) is True)
            self.assertTrue(fork is None or is_fork_paper(machine, fork) is True)

    def test_papers_where_many_numbers_stay(self):
        for machine in [all_rows(3), all_rows(169), free_rows(4, [(0, 0)]), Machine(3, [[0, 0, 1], [1, 1, 1]], [1])]:
            self.assertIs(is_round_paper(machine, round_paper(machine)), True)
            self.assertIs(is_fork_paper(machine, fork_paper(machine)), True)

    def test_all_papers_judged(self):
        short = rows(2, 2)
        for machine in [WORDS, all_rows(2), Machine(2, [[1, None], [0, 1]], [1]), no_rows(2),
                        Machine(2, [[1, 1], [0, None]], [0]), just_rows(2, [(0,)])]:
            for thing in itertools.product(short, repeat=3):
                front, again, behind = thing
                fits = again != () and goal(machine, front) is not None \
                    and goal(machine, front) == goal(machine, front + again) and takes(machine, front + behind)
                self.assertIs(is_round_paper(machine, thing), fits)
            for thing in itertools.product(short[:4], short, short, short[:4]):
                front, one, other, behind = thing
                state = goal(machine, front)
                fits = state is not None and goal(machine, front + one) == state == goal(machine, front + other) \
                    and one[:len(other)] != other and other[:len(one)] != one and takes(machine, front + behind)
                self.assertIs(is_fork_paper(machine, thing), fits)

    def test_kinds_of_papers(self):
        machine = all_rows(2)
        self.assertIs(is_round_paper(machine=machine, thing=((), (0,), ())), True)
        self.assertIs(is_fork_paper(machine=machine, thing=((), (0,), (1,), ())), True)
        for thing in ODD_VALUES + [[(), (0,), ()], ((), (0,)), ((), (0,), (), ()), ((), [0], ()), ((), (2,), ()),
                                   ((), (True,), ()), ((), (), ()), (None, (0,), ())]:
            self.assertIs(is_round_paper(machine, thing), False, repr(thing))
        for thing in ODD_VALUES + [[(), (0,), (1,), ()], ((), (0,), (1,)), ((), (0,), (0,), ()),
                                   ((), (), (0,), ()), ((), (0, 1), (0,), ()), ((), (0,), (True,), ()),
                                   ((), (0,), [1], ()), ((), (0,), (2,), ())]:
            self.assertIs(is_fork_paper(machine, thing), False, repr(thing))

    def test_errors(self):
        for thing in ODD_VALUES:
            for function in (is_finite, how_many, row_lengths, growth_of, round_paper, fork_paper):
                refused(self, BadMachine(None), function, thing)
            for function in (is_round_paper, is_fork_paper):
                refused(self, BadMachine(None), function, thing, None)


if __name__ == "__main__":
    unittest.main()
