"""Points [62], [63] and [66]: lots, cosets among them, and cosets of subgroups."""

import itertools
import random
import unittest

from gatewords.cosetlots import coset_of, is_against_coset, is_sublot, not_coset, turns
from gatewords.cosets import coset_least, coset_leasts, coset_table, index_of, same_coset
from gatewords.directclaims import claim_direct
from gatewords.errors import BadClaim, BadMachine, BadNumber, BadWord, TooMany
from gatewords.freeclaims import claim_free
from gatewords.groups import Group
from gatewords.leastforms import is_least_form, least_form
from gatewords.letters import undone
from gatewords.lots import carried, held_words, is_held
from gatewords.machines import Machine, goal, takes
from gatewords.normals import normal
from gatewords.rowasking import first_row
from gatewords.rowjoins import in_both, in_either, in_one
from gatewords.rowmakers import all_rows, free_rows, just_rows, no_rows
from gatewords.steadies import Steady
from tests.examples import cyclic_claim, d4_claim, endless_claim, s3_claim, s4_claim, three_claim, two_claim
from tests.helpers import ODD_VALUES, chance_machine, language, refused

FINITE = [three_claim(), two_claim(), cyclic_claim(4), s3_claim()]


def order(word):
    return (len(word), word)


def normals(claim, most=6):
    return language(claim.words, most)


def subsets(things):
    return [part for size in range(len(things) + 1) for part in itertools.combinations(things, size)]


def times(steady, *words):
    return normal(steady, sum(words, ()))


class Lots(unittest.TestCase):

    def test_all_lots_of_small_groups(self):
        for claim in FINITE:
            steady = Steady(claim)
            back = claim.group.back
            many = len(back)
            every = normals(claim)
            odd = (0, 0, 0, 1, 1) if many == 2 else (0,)
            for part in subsets(every):
                # What else a lot takes counts nothing.
                lot = just_rows(many, list(part) + [odd * 3])
                held = held_words(claim=claim, lot=lot)
                self.assertEqual(held, just_rows(many, part))
                for word in [(), (0,), (1, 0), (0, 0, 1), (1, 1, 1, 0, 1)]:
                    self.assertIs(is_held(claim=claim, lot=lot, word=word), normal(steady, word) in part)
                    found = carried(claim=claim, lot=lot, word=word)
                    self.assertEqual(found, just_rows(many, [times(steady, h, word) for h in part]))
                    self.assertEqual(carried(claim, found, undone(back, word)), held)

    def test_endless(self):
        claim = endless_claim()
        threes = Machine(2, [[1, 3], [2, None], [0, None], [None, 4], [None, 5], [None, 3]], [0])
        lot = Machine(2, [[1, 4], [2, None], [3, None], [1, None], [None, 5], [None, 6], [None, 4]], [0, 3, 6])
        self.assertIs(is_held(claim, lot, (0,) * 99 + (1,) * 33), True)
        self.assertIs(is_held(claim, lot, (0,) * 99 + (1,) * 34), False)
        self.assertEqual(language(carried(claim, lot, (0, 0, 1, 0)), 4), [(1,), (0, 0), (1, 1, 1, 1)])
        self.assertEqual(carried(claim, lot, (0, 1) * 100), held_words(claim, lot))
        self.assertIs(takes(carried(claim, lot, (0,) * 200), (0,) * 2), True)
        self.assertNotEqual(held_words(claim, threes), held_words(claim, lot))

    def test_carried_exactly(self):
        for claim in [endless_claim(), claim_direct(endless_claim(), two_claim()), claim_free(two_claim(), three_claim())]:
            steady = Steady(claim)
            many = len(claim.group.back)
            for seed in range(8):
                lot = chance_machine(seed, many, 4, 0.2, 0.5)
                word = tuple((seed + k * k) % many for k in range(seed % 4 + 1))
                found = carried(claim, lot, word)
                self.assertTrue(is_least_form(found))
                for one in normals(claim, 4):
                    before = times(steady, one, undone(claim.group.back, word))
                    self.assertIs(takes(found, one), takes(lot, before))

    def test_errors(self):
        claim = three_claim()
        lot = just_rows(2, [()])
        for function in (held_words, is_held, carried, turns, not_coset, coset_of, is_sublot, is_against_coset, coset_least,
                         same_coset, coset_leasts, coset_table, index_of):
            further = {is_held: 1, carried: 1, is_against_coset: 1, coset_least: 1, same_coset: 2,
                       coset_leasts: 1}.get(function, 0)
            for thing in ODD_VALUES + [Group((1, 0), []), Steady(claim)]:
                refused(self, BadClaim(None), function, thing, None, *[None] * further)
                refused(self, BadMachine(None), function, claim, thing, *[None] * further)
            for letters in (1, 3, 9):
                refused(self, BadMachine("letters"), function, claim, all_rows(letters), *[None] * further)
        for word in [None, [], [0], (2,), (True,), "0", (0,) * 201]:
            for function in (is_held, carried, coset_least):
                refused(self, BadWord("x"), function, claim, lot, word)
            refused(self, BadWord("x"), same_coset, claim, lot, word, ())
            refused(self, BadWord("x"), same_coset, claim, lot, (), word)
        self.assertIs(is_held(claim, lot, (0,) * 198), True)


def plain_turns(claim, steady, part):
    """The turns by going through all words with which held ones begin."""
    def rest(front):
        ends = [word[len(front):] for word in part if word[:len(front)] == front]
        return min(ends, key=order) if ends else None

    fronts = {word[:k] for word in part for k in range(len(word) + 1)}
    found = set()
    for front in fronts:
        for letter in range(len(claim.group.back)):
            if front + (letter,) in fronts:
                found.add(times(steady, undone(claim.group.back, rest(front)), (letter,), rest(front + (letter,))))
    return sorted(found - {()}, key=order)


class CosetLots(unittest.TestCase):

    def test_all_lots_of_small_groups(self):
        for claim in FINITE + [d4_claim()]:
            steady = Steady(claim)
            back = claim.group.back
            every = normals(claim)
            chance = random.Random(4)
            for part in subsets(every) if len(every) < 8 else [tuple(x for x in every if chance.random() < 0.5)
                                                               for _ in range(20)] + self.cosets(steady, every):
                lot = just_rows(len(back), part)
                closed = all(times(steady, w, undone(back, a), b) in part for w in part for a in part for b in part)
                is_coset = bool(part) and closed
                paper = not_coset(claim=claim, lot=lot)
                self.assertEqual(turns(claim=claim, lot=lot), plain_turns(claim, steady, part))
                self.assertEqual(paper is None, is_coset)
                if is_coset:
                    self.assertEqual(coset_of(claim=claim, lot=lot), (min(part, key=order), turns(claim, lot)))
                    self.assertEqual(self.come_to(steady, min(part, key=order), turns(claim, lot)), set(part))
                else:
                    self.assertIsNone(coset_of(claim, lot))
                    self.assertIs(is_against_coset(claim=claim, lot=lot, thing=paper), True)
                self.assertIs(is_sublot(claim=claim, lot=lot), is_coset and () in part)
                alike = all(carried(claim, lot, turn) == held_words(claim, lot) for turn in turns(claim, lot))
                self.assertIs(alike and bool(part), is_coset)

    def cosets(self, steady, every):
        found = []
        for one in every:
            sub = self.come_to(steady, (), [one])
            found.extend(tuple(times(steady, x, h) for h in sub) for x in every)
        return found

    def come_to(self, steady, start, gens):
        found = {start}
        waiting = [start]
        while waiting:
            one = waiting.pop()
            for gen in gens:
                for word in (gen, undone(steady.claim.group.back, gen)):
                    to = times(steady, one, word)
                    if to not in found:
                        found.add(to)
                        waiting.append(to)
        return found

    def test_papers_judged(self):
        claim = s3_claim()
        steady = Steady(claim)
        back = claim.group.back
        for part in [((), (0,), (1,)), ((0,), (0, 1)), ((), (0,)), ()]:
            lot = just_rows(2, part)
            for thing in itertools.product(normals(claim), repeat=3):
                one, a, b = thing
                wanted = all(word in part for word in thing) and times(steady, one, undone(back, a), b) not in part
                self.assertIs(is_against_coset(claim, lot, thing), wanted)
            self.assertIs(is_against_coset(claim, lot, ()), part == ())
        lot = just_rows(2, [(), (0,), (1,)])
        self.assertIs(is_against_coset(claim, lot, ((0,), (), (1,))), True)
        for thing in [x for x in ODD_VALUES if x != ()] + [
                [(0,), (), (1,)], ((0,), (), [1]), ((False,), (), (1,)), ((0,), ()), ((0,), (), (1,), ()),
                ((0,), (), (2,)), ((0,), (), (1, 1, 1)), ((0, 0, 0), (), (1,)), (None, (), (1,))]:
            self.assertIs(is_against_coset(claim, lot, thing), False, repr(thing))
        self.assertIs(is_against_coset(claim, no_rows(2), []), False)
        # Words that a lot takes and that are not normal are not held.
        wide = just_rows(2, [(), (0,), (1,), (0, 0, 0)])
        self.assertIs(is_against_coset(claim, wide, ((0,), (), (1,))), True)
        for place in range(3):
            thing = [(0,), (), (1,)]
            thing[place] = (0, 0, 0)
            self.assertIs(is_against_coset(claim, wide, tuple(thing)), False)

    def test_endless(self):
        claim = endless_claim()
        threes = Machine(2, [[1, 4], [2, None], [3, None], [1, None], [None, 5], [None, 6], [None, 4]], [0, 3, 6])
        self.assertEqual(turns(claim, threes), [(0,) * 3, (1,) * 3])
        self.assertEqual(coset_of(claim, threes), ((), [(0,) * 3, (1,) * 3]))
        self.assertIs(is_sublot(claim, threes), True)
        shifted = carried(claim, threes, (0, 0))
        self.assertEqual(coset_of(claim, shifted)[0], (1,))
        self.assertIs(is_sublot(claim, shifted), False)
        self.assertIsNone(not_coset(claim, shifted))
        half = Machine(2, [[0, None]], [0])
        paper = not_coset(claim, half)
        self.assertIs(is_against_coset(claim, half, paper), True)
        self.assertIsNone(coset_of(claim, half))
        self.assertEqual(not_coset(claim, no_rows(2)), ())
        self.assertEqual(not_coset(claim, just_rows(2, [(0, 1)])), ())
        self.assertIs(is_against_coset(claim, half, ((0,) * 300, (0,) * 500, (0,) * 150)), True)
        self.assertIs(is_against_coset(claim, half, ((0,) * 300, (0,) * 500, (0,) * 250)), False)
        self.assertEqual(coset_of(claim, just_rows(2, [(0, 0)])), ((0, 0), []))
        self.assertEqual(turns(claim, just_rows(2, [(0, 0)])), [])

    def test_of_free_words(self):
        # Of the document: the subgroup of (0, 0) and (2,) among words of two letters without rules.
        claim = claim_free(endless_claim(), endless_claim())
        table = Machine(4, [[1, 1, 0, 0], [0, 0, None, None]], [0])
        lot = in_both(claim.words, table)
        self.assertEqual(turns(claim, lot), [(2,), (3,), (0, 0), (1, 1)])
        self.assertIs(is_sublot(claim, lot), True)
        self.assertEqual(coset_least(claim, lot, (0, 2, 0)), (0, 2, 0))
        self.assertEqual(coset_least(claim, lot, (2, 0)), (0,))
        refused(self, TooMany(60), coset_table, claim, lot)
        refused(self, TooMany(60), index_of, claim, lot)
        twice = Machine(4, [[1, None, 0, None], [0, None, None, None]], [0])
        paper = not_coset(claim, twice)
        self.assertIs(is_against_coset(claim, twice, paper), True)

    def test_chance_lots(self):
        claim = claim_free(two_claim(), three_claim())
        for seed in range(12):
            lot = chance_machine(seed, 4, 3, 0.3, 0.6)
            paper = not_coset(claim, lot)
            if paper is None:
                self.assertIsNotNone(coset_of(claim, lot))
            else:
                self.assertIs(is_against_coset(claim, lot, paper), True)


def free_moves(chance, size):
    """Moves of points by letters that undo one another two by two."""
    moves = []
    for _ in range(2):
        move = list(range(size))
        chance.shuffle(move)
        moves += [move, [move.index(p) for p in range(size)]]
    return moves


def mixed_moves(chance, size):
    """Moves by a letter of order 3, what undoes it, and one that undoes itself, twice."""
    third = list(range(size))
    for p in range(0, size - 2, 3):
        third[p], third[p + 1], third[p + 2] = p + 1, p + 2, p
    swap = list(range(size))
    if size > 3:
        swap[2], swap[3] = 3, 2
    if chance.random() < 0.5 and size > 3:
        swap[0], swap[5] = 5, 0
    return [third, [third.index(p) for p in range(size)], swap, swap]


class Cosets(unittest.TestCase):

    def test_small_groups(self):
        for claim in [three_claim(), cyclic_claim(4), s3_claim(), d4_claim(), s4_claim()]:
            steady = Steady(claim)
            back = claim.group.back
            many = len(back)
            every = normals(claim)
            for one in every[:6]:
                sub = CosetLots().come_to(steady, (), [one])
                lot = just_rows(many, sorted(sub))
                parts = {word: frozenset(times(steady, h, word) for h in sub) for word in every}
                leasts = sorted({min(part, key=order) for part in parts.values()}, key=order)
                for word in every:
                    self.assertEqual(coset_least(claim=claim, lot=lot, word=word), min(parts[word], key=order))
                    for other in every[:5]:
                        self.assertIs(same_coset(claim=claim, lot=lot, one=word, other=other), other in parts[word])
                self.assertEqual(index_of(claim=claim, lot=lot), len(leasts))
                self.assertEqual(coset_leasts(claim=claim, lot=lot, most=8), leasts)
                for most in range(3):
                    near = {min(parts[normal(steady, w)], key=order)
                            for size in range(most + 1) for w in itertools.product(range(many), repeat=size)}
                    self.assertEqual(coset_leasts(claim, lot, most), sorted(near, key=order))
                self.assert_table(claim, steady, lot, coset_table(claim=claim, lot=lot), every)

    def assert_table(self, claim, steady, lot, table, every):
        self.assertEqual(table.ends, (0,))
        self.assertEqual(table, least_form(table))
        self.assertEqual(len(table.ways), index_of(claim, lot))
        self.assertFalse(any(to is None for way in table.ways for to in way))
        for word in every:
            self.assertIs(takes(table, word), is_held(claim, lot, word))

    def test_of_points_moved(self):
        # Words that lead point 0 to itself are a subgroup, and its cosets are the points.
        chance = random.Random(6)
        free = claim_free(endless_claim(), endless_claim())
        mixed = claim_free(three_claim(), two_claim())
        for claim, makes in [(free, free_moves), (mixed, mixed_moves)]:
            for size in (1, 3, 6):
                moves = makes(chance, size)
                table = least_form(Machine(4, [[move[p] for move in moves] for p in range(size)], [0]))
                lot = in_both(claim.words, table)
                self.assertIs(is_sublot(claim, lot), True)
                self.assertEqual(coset_table(claim, lot), table)
                self.assertEqual(index_of(claim, lot), len(table.ways))
                leasts = coset_leasts(claim, lot, 8)
                self.assertEqual(len(leasts), len(table.ways))
                self.assertEqual(sorted(goal(table, word) for word in leasts), list(range(len(leasts))))
                for word in language(claim.words, 3):
                    least = coset_least(claim, lot, word)
                    self.assertEqual(goal(table, least), goal(table, word))
                    self.assertIn(least, leasts)
                shifted = carried(claim, lot, (0, 2))
                self.assertIsNone(not_coset(claim, shifted))
                self.assertIs(is_sublot(claim, shifted), goal(table, (0, 2)) == 0)
                # One word less, or one more, and it is no coset.
                for word in [coset_of(claim, lot)[0], normal(Steady(claim), (0, 2, 0, 0))]:
                    for other in (in_one(lot, just_rows(4, [word])), in_either(lot, just_rows(4, [word]))):
                        if other != lot:
                            self.assertIs(is_against_coset(claim, other, not_coset(claim, other)), True)

    def test_60_cosets(self):
        claim = endless_claim()
        for many in (59, 60, 61):
            ways = [[1, many + 1]] + [[k + 1, None] for k in range(1, many)] + [[1, None]]
            down = [[None, many + k + 1] for k in range(1, many)] + [[None, many + 1]]
            lot = Machine(2, ways[:many + 1] + down, [0, many, 2 * many])
            self.assertIs(is_sublot(claim, lot), True)
            self.assertIs(is_held(claim, lot, (0,) * many), True)
            if many > 60:
                refused(self, TooMany(60), index_of, claim, lot)
                refused(self, TooMany(60), coset_table, claim, lot)
            else:
                self.assertEqual(index_of(claim, lot), many)
                self.assertEqual(len(coset_table(claim, lot).ways), many)
            self.assertEqual(len(coset_leasts(claim, lot, 8)), 17)
            self.assertEqual(coset_least(claim, lot, (0,) * 200), coset_least(claim, lot, (0,) * (200 - many)))
            self.assertIs(same_coset(claim, lot, (0,) * 150, (1,) * (many * 3 - 150)), True)
            self.assertIs(same_coset(claim, lot, (0,) * 150, (1,) * (many * 3 - 149)), False)

    def test_many_leasts(self):
        claim = claim_free(endless_claim(), endless_claim())
        lot = just_rows(4, [()])
        self.assertEqual(len(coset_leasts(claim, lot, 3)), 53)
        refused(self, TooMany(60), coset_leasts, claim, lot, 4)
        self.assertEqual(coset_leasts(claim, lot, 0), [()])
        self.assertEqual(coset_leasts(claim, claim.words, 8), [()])
        self.assertEqual(index_of(claim, claim.words), 1)

    def test_lengths(self):
        claim = endless_claim()
        lot = just_rows(2, [()])
        self.assertEqual(coset_leasts(claim, lot, 0), [()])
        self.assertEqual(len(coset_leasts(claim, lot, 8)), 17)
        for most in [-1, 9, True, None, "0", 1.0]:
            refused(self, BadNumber("most"), coset_leasts, claim, lot, most)

    def test_of_a_product(self):
        claim = claim_direct(endless_claim(), three_claim())
        lot = in_both(claim.words, free_rows(4, [(2,), (3,)]))
        self.assertEqual(index_of(claim, lot), 3)
        self.assertEqual(coset_leasts(claim, lot, 8), [(), (2,), (3,)])
        self.assertEqual(first_row(carried(claim, lot, (3, 0))), (3,))
        self.assertEqual(coset_table(claim, lot).ways, ((0, 0, 1, 2), (1, 1, 2, 0), (2, 2, 0, 1)))


if __name__ == "__main__":
    unittest.main()
