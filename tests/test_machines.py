"""Points [12] and [13]: machines, and pair rows."""

import unittest

from gatewords.errors import BadBack, BadMachine, BadNumber, BadWord, TooMany
from gatewords.groups import Group
from gatewords.letters import rank
from gatewords.machines import Machine, goal, rows_up_to, takes
from gatewords.pairs import is_pair_row, pair_row, words_of
from tests.helpers import ODD_VALUES, chain, chance_machine, refused, rows


class Machines(unittest.TestCase):

    def test_attributes(self):
        ways = [[1, None], [None, 0]]
        ends = [0, 1]
        machine = Machine(letters=2, ways=ways, ends=ends)
        self.assertEqual((machine.letters, machine.ways, machine.ends), (2, ((1, None), (None, 0)), (0, 1)))
        ways[0][0] = 0
        ways.append([None, None])
        ends.append(5)
        self.assertEqual((machine.ways, machine.ends), (((1, None), (None, 0)), (0, 1)))
        self.assertIsInstance(machine.ways, tuple)
        self.assertIsInstance(machine.ways[0], tuple)
        self.assertIsInstance(machine.ends, tuple)

    def test_equal(self):
        one = Machine(1, [[0]], [0])
        self.assertEqual(one, Machine(1, ((0,),), (0,)))
        for other in [Machine(1, [[0]], []), Machine(1, [[None]], [0]), Machine(2, [[0, 0]], [0]),
                      Machine(1, [[0], [0]], [0]), Group((1, 0), [])] + ODD_VALUES:
            self.assertFalse(one == other)
            self.assertTrue(one != other)

    def test_limits(self):
        self.assertEqual(Machine(169, [[0] * 169], []).letters, 169)
        refused(self, BadMachine("letters"), Machine, 170, [[0] * 170], [])
        refused(self, BadMachine("letters"), Machine, 0, [[]], [])
        self.assertEqual(len(Machine(1, [[1999]] * 2000, []).ways), 2000)
        refused(self, BadMachine("ways"), Machine, 1, [[0]] * 2001, [])
        refused(self, BadMachine("ways"), Machine, 1, [], [])

    def test_wrong_parts(self):
        for letters in [True, None, "1", 1.0, -1, [1]]:
            refused(self, BadMachine("letters"), Machine, letters, None, None)
        for ways in [None, 3, "0", {}, [None], [[0, 0]], [[]], [[1]], [[-1]], [[True]], [[0.0]], [["0"]],
                     [[0], [2]], [(0,), "0"], [{0: 0}]]:
            refused(self, BadMachine("ways"), Machine, 1, ways, None)
        for ends in [None, 0, "0", {}, [1], [-1], [True], [0, 0], [0.0], [None], {0}]:
            refused(self, BadMachine("ends"), Machine, 1, [[0]], ends)
        refused(self, BadMachine("ends"), Machine, 1, [[0], [0]], [1, 0])
        refused(self, BadMachine("ends"), Machine, 1, [[0], [0]], [0, True])


class Asking(unittest.TestCase):

    def test_goal_and_takes(self):
        machine = Machine(2, [[1, None], [1, 0]], [1])
        self.assertEqual(goal(machine, ()), 0)
        self.assertEqual(goal(machine, (0,)), 1)
        self.assertIsNone(goal(machine, (1,)))
        self.assertIsNone(goal(machine, (1, 0, 0)))
        self.assertEqual(goal(machine=machine, row=(0, 1) * 500), 0)
        self.assertIs(takes(machine, (0, 1, 0)), True)
        self.assertIs(takes(machine, (0, 1)), False)
        self.assertIs(takes(machine=machine, row=(1, 0)), False)

    def test_bad_rows(self):
        machine = Machine(2, [[0, 0]], [0])
        for function in (goal, takes):
            for row in [None, [0], (2,), (-1,), (True,), "01", (0.0,), (None,), ((),)]:
                refused(self, BadWord("x"), function, machine, row)
            for thing in [None, 3, (2, ((0, 0),), (0,))]:
                refused(self, BadMachine(None), function, thing, None)

    def test_rows_up_to(self):
        for seed in range(20):
            machine = chance_machine(seed, 1 + seed % 3, 1 + seed % 5)
            for most in range(5):
                found = rows_up_to(machine, most)
                self.assertEqual(found, [row for row in rows(machine.letters, most) if takes(machine, row)])
                self.assertEqual(found, sorted(found, key=rank))
        self.assertEqual(rows_up_to(chain(6), 6), [(0,) * 6])
        self.assertEqual(rows_up_to(chain(6), 5), [])
        self.assertIsNot(rows_up_to(chain(0), 0), rows_up_to(chain(0), 0))

    def test_as_many_rows_as_let(self):
        # 60 times 50 rows of two numbers, and one more; the rows need not be taken.
        ways = [[1 if k < 60 else None for k in range(61)], [2 if k < 50 else None for k in range(61)], [None] * 61]
        self.assertEqual(len(rows_up_to(Machine(61, ways, [2]), 6)), 3000)
        self.assertEqual(rows_up_to(Machine(61, ways, []), 6), [])
        ways[0][60] = 3
        ways.append([2] + [None] * 60)
        refused(self, TooMany(3000), rows_up_to, Machine(61, ways, [2]), 2)
        refused(self, TooMany(3000), rows_up_to, Machine(61, ways, []), 6)
        self.assertEqual(rows_up_to(Machine(61, ways, [2]), 1), [])

    def test_wrong_numbers(self):
        for most in [None, True, -1, 7, "1", 1.0]:
            refused(self, BadNumber("most"), rows_up_to, chain(1), most)
        refused(self, BadMachine(None), rows_up_to, None, None)


class PairRows(unittest.TestCase):

    def test_pair_row(self):
        self.assertEqual(pair_row((1, 0), (), (0,)), (6,))
        self.assertEqual(pair_row((1, 0), (0,), (1,)), (1,))
        self.assertEqual(pair_row((1, 0), (1,), ()), (5,))
        self.assertEqual(pair_row((1, 0), (0, 1, 1), (1,)), (1, 5, 5))
        self.assertEqual(pair_row(back=(1, 0), one=(), other=()), ())
        self.assertEqual(len(pair_row((1, 0), (0,) * 300, (1,) * 400)), 400)

    def test_there_and_back(self):
        for back in [(1, 0), (1, 0, 2)]:
            known = {}
            for one in rows(len(back), 3):
                for other in rows(len(back), 3):
                    row = pair_row(back, one, other)
                    self.assertEqual(words_of(back, row), (one, other))
                    self.assertIs(is_pair_row(back, row), True)
                    known[row] = True
            for row in rows((len(back) + 1) ** 2, 2):
                self.assertIs(is_pair_row(back, row), row in known)
                if row not in known:
                    refused(self, BadWord("x"), words_of, back, row)

    def test_what_is_none(self):
        for thing in [(8,), (6, 0), (2, 0), (2, 6), (6, 2), (0, 8), (9,), (-1,), [0], (True,), None, (6.0,)]:
            self.assertIs(is_pair_row((1, 0), thing), False)
            refused(self, BadWord("x"), words_of, (1, 0), thing)
        for thing in ODD_VALUES:
            self.assertIn(is_pair_row((1, 0), thing), (True, False))

    def test_errors(self):
        refused(self, BadBack("x"), pair_row, [1, 0], None, None)
        refused(self, BadWord("x"), pair_row, (1, 0), [0], None)
        refused(self, BadWord("x"), pair_row, (1, 0), (2,), ())
        refused(self, BadWord("x"), pair_row, (1, 0), (0,), (2,))
        refused(self, BadBack("x"), words_of, (1,), None)
        refused(self, BadBack("x"), is_pair_row, (1, 1), ())
        self.assertEqual(words_of(row=(6,), back=(1, 0)), ((), (0,)))


if __name__ == "__main__":
    unittest.main()
