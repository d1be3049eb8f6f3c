"""Point [29]: places of rows."""

import unittest

from gatewords.errors import BadMachine, BadNumber, BadWord, TooMany
from gatewords.machines import Machine, takes
from gatewords.rowgrowth import how_many
from gatewords.rowmakers import all_rows, free_rows, just_rows, no_rows
from gatewords.rowplaces import next_row, place_of, row_at
from tests.helpers import ODD_VALUES, chain, chance_machine, language, refused, ring, rows

WORDS = free_rows(2, [(0, 1), (1, 0)])


def some_machines():
    return [chance_machine(seed, 1 + seed % 3, 1 + seed % 7, (0.3, 0.6, 0.8)[seed % 3], (0.2, 0.5)[seed % 2])
            for seed in range(120)]


class Places(unittest.TestCase):

    def test_of_the_document(self):
        self.assertEqual(row_at(machine=WORDS, place=3), (0, 0))
        self.assertEqual(place_of(machine=WORDS, row=(1, 1)), 4)
        self.assertEqual(next_row(machine=WORDS, row=(0, 1)), (1, 1))

    def test_by_rows(self):
        for machine in some_machines():
            taken = language(machine, 5)
            for place, row in enumerate(taken):
                self.assertEqual(row_at(machine, place), row)
                self.assertEqual(place_of(machine, row), place)
                if place:
                    self.assertEqual(next_row(machine, taken[place - 1]), row)
            for row in rows(machine.letters, 4):
                if not takes(machine, row):
                    self.assertIsNone(place_of(machine, row))
                behind = [other for other in taken if (len(other), other) > (len(row), row)]
                found = next_row(machine, row)
                if behind:
                    self.assertEqual(found, behind[0])
                elif found is not None:
                    self.assertGreater(len(found), 5)
                    self.assertEqual(place_of(machine, found), len(taken))
                else:
                    self.assertEqual(how_many(machine), len(taken))

    def test_there_and_back(self):
        for machine in some_machines():
            many = how_many(machine)
            for place in [0, 1, 17, 10 ** 6, 10 ** 60]:
                if many is not None and place >= many:
                    refused(self, BadNumber("place"), row_at, machine, place)
                    continue
                try:
                    row = row_at(machine, place)
                except TooMany as error:
                    self.assertEqual(error.most, 200)
                    continue
                self.assertEqual(place_of(machine, row), place)
                further = next_row(machine, row)
                self.assertTrue(further is None or takes(machine, further))
                if further is not None and len(further) <= 200:
                    self.assertEqual(place_of(machine, further), place + 1)

    def test_edges_of_places(self):
        machine = just_rows(3, [(), (2,), (0, 1), (1, 0, 2)])
        self.assertEqual([row_at(machine, k) for k in range(4)], [(), (2,), (0, 1), (1, 0, 2)])
        for place in [4, 5, 10 ** 60, 10 ** 60 + 1, -1, True, None, "0", 0.0]:
            refused(self, BadNumber("place"), row_at, machine, place)
        refused(self, BadNumber("place"), row_at, no_rows(2), 0)
        wide = all_rows(169)
        last = row_at(wide, 10 ** 60)
        self.assertEqual(place_of(wide, last), 10 ** 60)
        refused(self, BadNumber("place"), row_at, wide, 10 ** 60 + 1)
        # 2 ** 199 - 1 rows of fewer than 199 numbers and more, so 10 ** 60 - 1 is among those of 199.
        two = all_rows(2)
        self.assertEqual(place_of(two, row_at(two, 10 ** 60)), 10 ** 60)
        self.assertEqual(len(row_at(two, 10 ** 60)), 199)

    def test_rows_of_200_numbers(self):
        one = all_rows(1)
        self.assertEqual(row_at(one, 200), (0,) * 200)
        refused(self, TooMany(200), row_at, one, 201)
        refused(self, TooMany(200), row_at, one, 10 ** 60)
        self.assertEqual(place_of(one, (0,) * 200), 200)
        refused(self, TooMany(200), place_of, one, (0,) * 201)
        self.assertEqual(next_row(one, (0,) * 200), (0,) * 201)
        refused(self, TooMany(200), next_row, one, (0,) * 201)
        refused(self, BadWord("x"), place_of, one, (1,) * 201)
        # A row of more than 200 numbers is refused ahead of whether it is taken.
        refused(self, TooMany(200), place_of, no_rows(1), (0,) * 201)
        self.assertIsNone(next_row(no_rows(1), (0,) * 200))
        refused(self, TooMany(200), row_at, chain(201), 0)
        self.assertEqual(row_at(chain(200), 0), (0,) * 200)

    def test_far_rows(self):
        self.assertEqual(next_row(chain(1999), ()), (0,) * 1999)
        self.assertIsNone(next_row(chain(199), (0,) * 199))
        self.assertEqual(next_row(ring(1000, (7,)), (0,) * 8), (0,) * 1007)
        self.assertEqual(next_row(ring(2000), (0,) * 200), (0,) * 2000)
        # Rows that lead nowhere: the next one of the same length may part from them early.
        machine = Machine(3, [[1, None, 2], [None, None, None], [2, 2, None]], [1, 2])
        self.assertEqual(next_row(machine, (0, 0, 0)), (2, 0, 0))
        self.assertEqual(next_row(machine, (2, 2, 2)), (2, 0, 0, 0))
        self.assertEqual(next_row(machine, (1,)), (2,))
        # States that lead to no end count nothing.
        lost = Machine(2, [[1, 0], [1, 1]], [0])
        self.assertEqual([row_at(lost, k) for k in range(3)], [(), (1,), (1, 1)])
        self.assertEqual(next_row(lost, (0,)), (1,))

    def test_errors(self):
        for thing in ODD_VALUES:
            for function in (row_at, place_of, next_row):
                refused(self, BadMachine(None), function, thing, None)
        for row in [None, [], [0], (2,), (True,), (-1,), ("0",), (0.0,), 0]:
            refused(self, BadWord("x"), place_of, WORDS, row)
            refused(self, BadWord("x"), next_row, WORDS, row)


if __name__ == "__main__":
    unittest.main()
