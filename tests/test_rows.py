"""Points [21] and [23]: machines of rows, joined ones, first rows."""

import itertools
import random
import unittest

from gatewords.errors import BadMachine, BadNumber, BadWord, TooMany
from gatewords.leastforms import is_least_form
from gatewords.machines import Machine
from gatewords.rowasking import first_apart, first_beyond, first_row, is_among
from gatewords.rowjoins import in_both, in_either, in_none, in_one
from gatewords.rowmakers import all_rows, free_rows, just_rows, no_rows
from tests.helpers import ODD_VALUES, chain, chance_machine, language, refused, ring, rows

BAD_LETTERS = [None, True, 0, -1, 170, "2", 2.0]
BAD_ROWS = [None, 3, "ab", [None], [[0]], [(2,)], [(-1,)], [(True,)], {(0,): 0}, [("0",)], [(0.0,)], {(0,)}]


def stands_in(row, longer):
    return any(longer[k:k + len(row)] == row for k in range(len(longer) - len(row) + 1))


def pairs_of_machines():
    for seed in range(120):
        letters = 1 + seed % 3
        gaps = (0, 0.2, 0.5)[seed % 3 if seed % 2 else 2]
        yield (chance_machine(2 * seed, letters, 1 + seed % 6, gaps),
               chance_machine(2 * seed + 1, letters, 1 + seed % 5, gaps))


class Makers(unittest.TestCase):

    def test_none_and_all(self):
        self.assertEqual(no_rows(letters=3), Machine(3, [[None] * 3], []))
        self.assertEqual(all_rows(letters=3), Machine(3, [[0] * 3], [0]))
        self.assertEqual(no_rows(169).letters, 169)
        self.assertEqual(all_rows(169).ways, ((0,) * 169,))
        self.assertEqual(all_rows(1).ways, ((0,),))

    def test_just_rows(self):
        chance = random.Random(3)
        for letters in (1, 2, 3):
            short = rows(letters, 4)
            for _ in range(30):
                some = chance.sample(short, chance.randrange(len(short) // 2))
                machine = just_rows(letters, some)
                self.assertIs(is_least_form(machine), True)
                self.assertEqual(set(language(machine, 5)), set(some))
                self.assertEqual(just_rows(letters, tuple(some + some)), machine)
        self.assertEqual(just_rows(2, []), no_rows(2))
        self.assertEqual(just_rows(2, [()]), Machine(2, [[None, None]], [0]))

    def test_free_rows(self):
        chance = random.Random(4)
        for letters in (1, 2, 3):
            short = rows(letters, 3)[1:]
            for _ in range(40):
                some = chance.sample(short, min(len(short), chance.randrange(4)))
                machine = free_rows(letters, some)
                self.assertIs(is_least_form(machine), True)
                left = [row for row in rows(letters, 5) if not any(stands_in(one, row) for one in some)]
                self.assertEqual(language(machine, 5), left)
                self.assertLessEqual(len(machine.ways), 1 + sum(map(len, some)))
        self.assertEqual(free_rows(2, []), all_rows(2))
        self.assertEqual(free_rows(2, [(0, 1), ()]), no_rows(2))
        self.assertEqual(free_rows(1, [(0,)]), just_rows(1, [()]))

    def test_many_states(self):
        self.assertEqual(just_rows(1, [(0,) * 1999]), chain(1999))
        refused(self, TooMany(2000), just_rows, 1, [(0,) * 2000])
        self.assertEqual(len(free_rows(1, [(0,) * 2000]).ways), 2000)
        refused(self, TooMany(2000), free_rows, 1, [(0,) * 2001])
        # Many rows that share their beginnings and ends.
        every = just_rows(12, list(itertools.product(range(12), repeat=4)))
        self.assertEqual(len(every.ways), 5)
        self.assertEqual(free_rows(1, [(0,) * 5, (0,) * 9000]), free_rows(1, [(0,) * 5]))

    def test_errors(self):
        for letters in BAD_LETTERS:
            for function in (no_rows, all_rows):
                refused(self, BadNumber("letters"), function, letters)
            for function in (just_rows, free_rows):
                refused(self, BadNumber("letters"), function, letters, None)
        for thing in BAD_ROWS:
            for function in (just_rows, free_rows):
                refused(self, BadWord("x"), function, 2, thing)

    def test_given_is_kept(self):
        some = [(0, 1), (0,)]
        just_rows(letters=2, rows=some)
        free_rows(letters=2, rows=some)
        self.assertEqual(some, [(0, 1), (0,)])

    def test_of_the_document(self):
        self.assertEqual(free_rows(2, [(0, 1), (1, 0)]),
                         Machine(2, ((1, 2), (1, None), (None, 2)), (0, 1, 2)))


class Joins(unittest.TestCase):

    def test_all_rows(self):
        for one, other in pairs_of_machines():
            most = 6 if one.letters < 3 else 4
            left, right = set(language(one, most)), set(language(other, most))
            every = set(rows(one.letters, most))
            for machine, wanted in [(in_either(one, other), left | right), (in_both(one, other), left & right),
                                    (in_one(one, other), left - right), (in_none(one), every - left)]:
                self.assertEqual(set(language(machine, most)), wanted)
                self.assertIs(is_least_form(machine), True)

    def test_contrary_rows(self):
        for one, other in pairs_of_machines():
            self.assertEqual(in_none(in_either(one, other)), in_both(in_none(one), in_none(other)))
            self.assertEqual(in_none(in_none(one)), in_both(one, one))
            self.assertEqual(in_one(one, other), in_both(one, in_none(other)))

    def test_many_states(self):
        self.assertEqual(len(in_none(ring(2000)).ways), 2000)
        refused(self, TooMany(2000), in_none, chain(1999))
        self.assertEqual(len(in_none(chain(1998)).ways), 2000)
        # 40 and 50 go round together after 200, 45 and 44 after 1980, 45 and 46 after 2070.
        self.assertEqual(in_both(ring(40), ring(50)), ring(200))
        self.assertEqual(in_both(ring(45), ring(44)), ring(1980))
        refused(self, TooMany(2000), in_both, ring(45), ring(46))
        refused(self, TooMany(2000), in_either, ring(45), ring(46))
        # Many standings need not be many states.
        big = Machine(1, [[(k + 1) % 131] for k in range(131)], list(range(131)))
        self.assertEqual(in_both(big, ring(150)), ring(150))
        self.assertEqual(in_both(ring(149), ring(130, ())), no_rows(1))
        self.assertEqual(in_either(ring(149), in_none(ring(149))), all_rows(1))

    def test_named(self):
        one, other = ring(2), ring(3)
        self.assertEqual(in_either(other=other, one=one), in_either(one, other))
        self.assertEqual(in_both(other=other, one=one), ring(6))
        self.assertEqual(in_one(other=other, one=one), in_one(one, other))
        self.assertEqual(in_none(machine=one), ring(2, (1,)))

    def test_errors(self):
        one, other = all_rows(1), all_rows(2)
        for function in (in_either, in_both, in_one, first_beyond, is_among, first_apart):
            refused(self, BadMachine("letters"), function, one, other)
            refused(self, BadMachine("letters"), function, other, one)
            for thing in ODD_VALUES:
                refused(self, BadMachine(None), function, thing, one)
                refused(self, BadMachine(None), function, one, thing)
        for thing in ODD_VALUES:
            refused(self, BadMachine(None), in_none, thing)
            refused(self, BadMachine(None), first_row, thing)


class Asking(unittest.TestCase):

    def test_first_rows(self):
        for one, other in pairs_of_machines():
            self.assertEqual(first_beyond(one, other), first_row(in_one(one, other)))
            both = in_either(in_one(one, other), in_one(other, one))
            self.assertEqual(first_apart(one, other), first_row(both))
            self.assertIs(is_among(one, other), in_one(one, other) == no_rows(one.letters))
            most = 9 if one.letters < 3 else 6
            taken = language(one, most)
            self.assertEqual(first_row(one), taken[0] if taken else None)
            apart = first_apart(one, other)
            if apart is not None:
                self.assertLess(len(apart), len(one.ways) + len(other.ways))

    def test_some(self):
        self.assertIsNone(first_row(no_rows(2)))
        self.assertEqual(first_row(machine=chain(1999)), (0,) * 1999)
        self.assertEqual(first_row(all_rows(2)), ())
        self.assertEqual(first_row(just_rows(2, [(1,), (0, 0)])), (1,))
        self.assertIsNone(first_beyond(one=no_rows(2), other=all_rows(2)))
        self.assertEqual(first_beyond(all_rows(2), free_rows(2, [(1, 0), (1, 1)])), (1, 0))
        self.assertIs(is_among(one=no_rows(2), other=no_rows(2)), True)
        self.assertIsNone(first_apart(one=ring(3), other=ring(3)))

    def test_no_bound_of_states(self):
        # These make no machine: many more than 2000 standings are gone through.
        all_but_last = tuple(range(1998))
        self.assertEqual(first_beyond(ring(211, (210,)), ring(199, tuple(range(198)))),
                         (0,) * [k for k in range(211 * 199) if k % 211 == 210 and k % 199 == 198][0])
        self.assertEqual(first_apart(ring(2000, (1999,)), ring(1999, (1998,))), (0,) * 1998)
        self.assertEqual(first_apart(ring(2000, all_but_last), ring(1999, all_but_last)), (0,) * 1999)
        self.assertIs(is_among(ring(2000), all_rows(1)), True)


if __name__ == "__main__":
    unittest.main()
