"""Points [20] and [22]: least forms, state papers, beginnings and rests."""

import unittest

from gatewords.begun import beginnings, is_begun, rows_behind
from gatewords.errors import BadMachine, BadWord
from gatewords.leastforms import is_least_form, is_state_paper, least_form, state_paper
from gatewords.machines import Machine, goal, takes
from gatewords.rowmakers import free_rows, just_rows
from tests.helpers import ODD_VALUES, chain, chance_machine, language, refused, ring, rows

NONE = Machine(2, [[None, None]], [])


def some_machines():
    return [chance_machine(seed, 1 + seed % 3, 1 + seed % 7, (0.1, 0.4, 0.6)[seed % 3], (0.2, 0.5)[seed % 2])
            for seed in range(150)]


def alike_classes(machine):
    """The class of each state, and of nowhere, told by rows as long as there are states."""
    tests = rows(machine.letters, 4 if machine.letters > 2 else 7)
    shown = []
    for state in range(len(machine.ways)):
        moved = Machine(machine.letters, machine.ways, machine.ends)
        found = []
        for row in tests:
            at = state
            for number in row:
                at = None if at is None else moved.ways[at][number]
            found.append(at is not None and at in moved.ends)
        shown.append(tuple(found))
    return shown


class LeastForms(unittest.TestCase):

    def test_same_rows(self):
        for machine in some_machines():
            least = least_form(machine)
            self.assertEqual(language(least, 4), language(machine, 4))
            self.assertIs(is_least_form(least), True)
            self.assertEqual(least_form(least), least)
            self.assertIs(is_least_form(machine), machine == least)

    def test_as_few_states_as_can_be(self):
        for machine in some_machines():
            met = {0}
            while True:
                more = met | {to for state in met for to in machine.ways[state] if to is not None}
                if more == met:
                    break
                met = more
            shown = alike_classes(machine)
            unlike = {shown[state] for state in met if any(shown[state])}
            self.assertEqual(len(least_form(machine).ways), max(1, len(unlike)))

    def test_numbers_as_first_met(self):
        for machine in some_machines():
            least = least_form(machine)
            met = [0]
            for state in range(len(least.ways)):
                for to in least.ways[state]:
                    if to is not None and to not in met:
                        met.append(to)
            self.assertEqual(met, list(range(len(least.ways))))

    def test_no_rows(self):
        for machine in [NONE, Machine(2, [[0, 1], [1, 0]], []), Machine(2, [[0, None], [0, 0]], [1])]:
            self.assertEqual(least_form(machine), NONE)
        self.assertIs(is_least_form(NONE), True)
        self.assertIs(is_least_form(Machine(2, [[0, None]], [])), False)

    def test_one_form(self):
        machines = [machine for machine in some_machines() if machine.letters == 2]
        for one in machines[:25]:
            for other in machines[:25]:
                same = language(one, 8) == language(other, 8)
                self.assertEqual(least_form(one) == least_form(other), same)

    def test_many_states(self):
        self.assertEqual(least_form(ring(2000)), ring(2000))
        self.assertEqual(least_form(ring(2000, list(range(0, 2000, 4)))), ring(4))
        self.assertEqual(least_form(chain(1999)), chain(1999))
        self.assertEqual(least_form(Machine(169, [[1999] * 169] * 2000, list(range(2000)))).ways, ((0,) * 169,))

    def test_given_is_kept(self):
        machine = Machine(2, [[1, None], [0, 1]], [0])
        least_form(machine)
        state_paper(machine)
        self.assertEqual(machine, Machine(2, [[1, None], [0, 1]], [0]))

    def test_errors(self):
        for function in (least_form, is_least_form, state_paper, beginnings, is_begun):
            for thing in ODD_VALUES:
                refused(self, BadMachine(None), function, thing)
        refused(self, BadMachine(None), is_state_paper, None, None)
        refused(self, BadMachine(None), rows_behind, None, None)


class StatePapers(unittest.TestCase):

    def test_fronts_are_least(self):
        for machine in some_machines():
            paper = state_paper(machine)
            fronts, behinds = paper
            self.assertIs(type(paper), tuple)
            self.assertIs(type(fronts), list)
            self.assertIs(type(behinds), list)
            self.assertIs(is_state_paper(machine, paper), True)
            self.assertLessEqual(len(behinds), len(fronts))
            least = least_form(machine)
            if not least.ends:
                self.assertEqual(paper, ([], []))
                continue
            self.assertEqual(len(fronts), len(least.ways))
            for state, front in enumerate(fronts):
                self.assertEqual(goal(least, front), state)
                first = [row for row in rows(least.letters, 6) if goal(least, row) == state][0]
                self.assertEqual(front, first)

    def test_judged_by_its_rows(self):
        for machine in some_machines()[:60]:
            fronts = rows(machine.letters, 2)[:4]
            for behinds in ([], [()], [(), (0,)], rows(machine.letters, 2)):
                for many in range(4):
                    some = fronts[:many]
                    told = [[takes(machine, front + behind) for behind in behinds] for front in some]
                    fits = all(any(line) for line in told) and len({tuple(line) for line in told}) == len(told)
                    self.assertIs(is_state_paper(machine, (some, behinds)), fits)

    def test_kinds(self):
        machine = free_rows(2, [(0, 1), (1, 0)])
        self.assertIs(is_state_paper(machine, ([(), (0,), (1,)], [(0,), (1,)])), True)
        self.assertIs(is_state_paper(machine, (((), (0,), (1,)), ((0,), (1,)))), True)
        self.assertIs(is_state_paper(machine, ([], [])), True)
        self.assertIs(is_state_paper(machine, ([], [(0, 0, 0)])), True)
        for thing in ODD_VALUES + [[[()], [()]], ([()], [()], []), ([[]], [()]), ([()], [[]]), ([(2,)], [()]),
                                   ([()], [(2,)]), ([(True,)], [()]), ([()], None), ([(), ()], [()]),
                                   ([(0, 1)], [()]), ([(), (0,)], [()]), ("", ""), ([()], [])]:
            self.assertIs(is_state_paper(machine, thing), False, repr(thing))

    def test_long_ones(self):
        paper = state_paper(chain(1999))
        self.assertEqual(paper[0], [(0,) * k for k in range(2000)])
        self.assertIs(is_state_paper(chain(1999), paper), True)
        self.assertIs(is_state_paper(chain(1998), paper), False)

    def test_of_the_document(self):
        machine = free_rows(2, [(0, 1), (1, 0)])
        self.assertEqual(machine, Machine(2, ((1, 2), (1, None), (None, 2)), (0, 1, 2)))
        self.assertEqual(state_paper(machine)[0], [(), (0,), (1,)])


class Begun(unittest.TestCase):

    def test_beginnings(self):
        for machine in some_machines():
            if machine.letters > 2:
                continue
            found = beginnings(machine)
            longer = language(machine, 4 + len(machine.ways)) if machine.letters == 1 else language(machine, 10)
            self.assertEqual(set(language(found, 4)), {row[:k] for row in longer for k in range(len(row) + 1) if k < 5})
            self.assertIs(is_least_form(found), True)
            self.assertIs(is_begun(machine), found == least_form(machine))

    def test_some(self):
        self.assertEqual(beginnings(just_rows(2, [(0, 1)])), just_rows(2, [(), (0,), (0, 1)]))
        self.assertEqual(beginnings(NONE), NONE)
        self.assertIs(is_begun(NONE), True)
        self.assertIs(is_begun(just_rows(2, [()])), True)
        self.assertIs(is_begun(just_rows(2, [(0,)])), False)
        # States that no row meets, or that lead nowhere, count nothing.
        self.assertIs(is_begun(Machine(1, [[1], [None], [0]], [0])), True)

    def test_rows_behind(self):
        for machine in some_machines():
            for row in rows(machine.letters, 2):
                found = rows_behind(machine, row)
                self.assertIs(is_least_form(found), True)
                for rest in rows(machine.letters, 3):
                    self.assertIs(takes(found, rest), takes(machine, row + rest))
        self.assertEqual(rows_behind(machine=chain(5), row=(0,) * 6), least_form(Machine(1, [[None]], [])))
        self.assertEqual(rows_behind(ring(2000), (0,) * 4001), rows_behind(ring(2000), (0,)))

    def test_states_are_rests(self):
        for machine in some_machines()[:40]:
            least = least_form(machine)
            if least.ends:
                short = rows(least.letters, 3)
                for one in short:
                    for other in short:
                        same = rows_behind(least, one) == rows_behind(least, other)
                        self.assertEqual(same, goal(least, one) == goal(least, other))

    def test_bad_rows(self):
        for row in [None, [0], (2,), (True,), "0"]:
            refused(self, BadWord("x"), rows_behind, NONE, row)


if __name__ == "__main__":
    unittest.main()
