"""Points 64, 65 and 68: lots of subgroups, member papers, members found, meets and normal subgroups."""

import itertools
import random
import unittest
from unittest import mock

from gatewords.cosetlots import coset_of, is_sublot, turns
from gatewords.cosets import coset_least, index_of
from gatewords.cosettables import found_table, is_table, table_gens
from gatewords.errors import BadClaim, BadGroup, BadMachine, BadPaper, BadSubgroup, BadWord, TooMany
from gatewords.finding import claim_found
from gatewords.findmembers import members_found
from gatewords.groups import Group
from gatewords.layers import layer
from gatewords.leastforms import is_least_form
from gatewords.lots import carried, held_words, is_held
from gatewords.machines import Machine, goal, takes
from gatewords.meets import is_normal_table, meet, not_normal, table_core, tables_met
from gatewords.members import is_member_paper, member_spelling, unclosed
from gatewords.normals import normal
from gatewords.rowmakers import all_rows, just_rows, no_rows
from gatewords.steadies import Steady
from gatewords.subgroups import Subgroup, spelled, spelling_undone
from gatewords.tables import normals
from tests.examples import D4_GENS, S3_GENS, S4_GENS, d4_claim, endless_claim, s3_claim, s4_claim
from tests.helpers import ODD_VALUES, chance_machine, refused, rows
from tests.test_layers import FREE, PLANE, Tables, undone

FREE_CLAIM = claim_found(FREE, 4, 2)[2]
PLANE_CLAIM = claim_found(PLANE, 6, 2)[2]
TURNS_CLAIM = claim_found(Group((0, 1, 2), [((0, 1) * 3, ()), ((1, 2) * 3, ()), ((0, 2) * 3, ())]), 12, 3)[2]
MODULAR_CLAIM = claim_found(Group((0, 2, 1), [((1, 1, 1), ())]), 10, 2)[2]
ENDLESS = endless_claim()


def elements_of(steady, gens):
    """The normal words of the subgroup of words of a finite group."""
    back = steady.claim.group.back
    words = list(gens) + [tuple(back[k] for k in word[::-1]) for word in gens]
    found = {()}
    waiting = [()]
    while waiting:
        here = waiting.pop()
        for word in words:
            to = normal(steady, here + word)
            if to not in found:
                found.add(to)
                waiting.append(to)
    return found


def all_subgroups(steady):
    """The sets of normal words of all subgroups that two words tell, each with gens."""
    found = {}
    words = normals(steady)
    for one in words:
        for other in words:
            found.setdefault(frozenset(elements_of(steady, [one, other])), [one, other])
    return found


def chance_words(seed, many, gens, most):
    chance = random.Random(seed)
    return [tuple(chance.randrange(many) for _ in range(chance.randint(0, most))) for _ in range(gens)]


class Unclosed(unittest.TestCase):

    def test_by_all_normal_words(self):
        claim = s3_claim()
        steady = Steady(claim)
        words = normals(steady)
        for bits in range(64):
            held = [word for place, word in enumerate(words) if bits >> place & 1]
            lot = just_rows(2, held + [(1, 1, 1, 1)])
            for gens in ([], [(0,)], [(0, 1)], [(0, 1, 0), (0,)], [(), (1,)]):
                sub = Subgroup(claim.group, gens)
                found = unclosed(claim=claim, sub=sub, lot=lot)
                told = None
                if () not in held:
                    told = ((), None)
                else:
                    for place, gen in enumerate(gens):
                        off = [w for w in words if (w in held) != (normal(steady, w + gen) in held)]
                        if off and told is None:
                            told = (off[0], place)
                self.assertEqual(found, told)

    def test_lots_of_subgroups_have_papers_and_no_others(self):
        claim = s3_claim()
        steady = Steady(claim)
        words = normals(steady)
        for members, gens in all_subgroups(steady).items():
            sub = Subgroup(claim.group, gens)
            for bits in range(64):
                held = [word for place, word in enumerate(words) if bits >> place & 1]
                lot = just_rows(2, held)
                spellings = {}
                for size in range(4):
                    for spelling in itertools.product(range(4), repeat=size):
                        spellings.setdefault(normal(steady, spelled(sub, spelling)), spelling)
                told = turns(claim, lot)
                paper = [(turn, spellings.get(turn, ())) for turn in told]
                right = set(held) == set(members)
                self.assertEqual(is_member_paper(claim, sub, lot, paper), right)
                if right:
                    self.assertIsNone(unclosed(claim, sub, lot))

    def test_endless(self):
        sub = Subgroup(ENDLESS.group, [(0, 0)])
        self.assertEqual(unclosed(ENDLESS, sub, all_rows(2)), None)
        self.assertEqual(unclosed(ENDLESS, sub, no_rows(2)), ((), None))
        self.assertEqual(unclosed(ENDLESS, sub, just_rows(2, [(), (0, 0)])), ((0, 0), 0))
        even = members_found(ENDLESS, sub)[1]
        self.assertIsNone(unclosed(ENDLESS, sub, even))
        self.assertEqual(unclosed(ENDLESS, Subgroup(ENDLESS.group, [(0, 0), (1, 0, 1)]), even), ((), 1))


class Papers(unittest.TestCase):

    def setUp(self):
        self.sub = Subgroup(FREE, [(0, 0), (2,)])
        self.number, self.lot, self.paper = members_found(FREE_CLAIM, self.sub)

    def test_example(self):
        self.assertEqual(self.number, 0)
        self.assertEqual(turns(FREE_CLAIM, self.lot), [(2,), (3,), (0, 0), (1, 1)])
        told = [((2,), (2,)), ((3,), (3,)), ((0, 0), (0,)), ((1, 1), (1,))]
        self.assertTrue(is_member_paper(claim=FREE_CLAIM, sub=self.sub, lot=self.lot, thing=told))
        self.assertTrue(is_member_paper(FREE_CLAIM, self.sub, self.lot, tuple(told)))
        self.assertEqual(coset_least(FREE_CLAIM, self.lot, (0, 2, 0)), (0, 2, 0))
        self.assertEqual(coset_least(FREE_CLAIM, self.lot, (2, 0)), (0,))

    def test_near_right_ones(self):
        told = [((2,), (2,)), ((3,), (3,)), ((0, 0), (0,)), ((1, 1), (1,))]
        self.assertTrue(self.judged(told[:2] + [((0, 0), (2, 3, 0, 1, 0))] + told[3:]))
        for wrong in (told[:3], told + told[3:], told[1:] + told[:1], [((2,), (3,))] + told[1:],
                      [((2,), [2])] + told[1:], [[(2,), (2,)]] + told[1:], [((2,), (4,))] + told[1:],
                      [((2.0,), (2,))] + told[1:], [((2,), (2.0,))] + told[1:], [((2,), (2,), ())] + told[1:],
                      [((2,), None)] + told[1:], [(None, (2,))] + told[1:], told[:3] + [((1, 1), (True,))],
                      told[:3] + [((True, True), (1,))], [([2], (2,))] + told[1:], dict(told)):
            self.assertFalse(self.judged(wrong), wrong)
        for thing in ODD_VALUES:
            self.assertFalse(self.judged(thing))
        # A paper of a lot that is not closed is none, whatever it tells.
        lot = just_rows(4, [()])
        self.assertEqual(turns(FREE_CLAIM, lot), [])
        self.assertFalse(is_member_paper(FREE_CLAIM, self.sub, lot, []))
        self.assertTrue(is_member_paper(FREE_CLAIM, Subgroup(FREE, []), lot, []))

    def judged(self, thing):
        return is_member_paper(FREE_CLAIM, self.sub, self.lot, thing)

    def test_member_spelling(self):
        told = [((2,), (2,)), ((3,), (3,)), ((0, 0), (0,)), ((1, 1), (1,))]
        ask = lambda word: member_spelling(claim=FREE_CLAIM, sub=self.sub, lot=self.lot, paper=told, word=word)
        self.assertEqual(ask((0, 0, 2, 0, 0)), (0, 2, 0))
        self.assertEqual(ask((0, 1)), ())
        self.assertEqual(ask((3, 1, 2, 3, 1)), (3, 1))
        self.assertIsNone(ask((0,)))
        self.assertIsNone(ask((0, 2, 0)))
        self.assertEqual(ask((0,) * 200), (0,) * 100)
        longer = told[:2] + [((0, 0), (0, 2, 3)), told[3]]
        self.assertEqual(member_spelling(FREE_CLAIM, self.sub, self.lot, longer, (0, 0)), (0, 2, 3))

    def test_spellings_of_many_words(self):
        for claim, seeds in ((TURNS_CLAIM, range(6)), (PLANE_CLAIM, range(4)), (s4_claim(), range(6)),
                             (MODULAR_CLAIM, range(6))):
            steady = Steady(claim)
            many = len(claim.group.back)
            for seed in seeds:
                sub = Subgroup(claim.group, chance_words(seed, many, 2, 4))
                try:
                    _, lot, paper = members_found(claim, sub)
                except TooMany:
                    continue
                chance = random.Random(seed)
                for _ in range(6):
                    word = spelled(sub, tuple(chance.randrange(4) for _ in range(chance.randint(0, 5))))
                    spelling = member_spelling(claim, sub, lot, paper, word)
                    back = spelled(sub, spelling_undone(sub, spelling))
                    self.assertEqual(normal(steady, word), leads_from(steady, (), undone(claim.group, back)))
                for word in rows(many, 3):
                    self.assertEqual(member_spelling(claim, sub, lot, paper, word) is None,
                                     not is_held(claim, lot, word))

    def test_wrong_inputs(self):
        functions = [(unclosed, 0), (is_member_paper, 1), (member_spelling, 2), (not_normal, 0)]
        other = Subgroup(PLANE, [(0,)])
        for function, more in functions:
            rest = (None,) * more
            for thing in ODD_VALUES:
                refused(self, BadClaim(None), function, thing, thing, thing, *rest)
                refused(self, BadSubgroup(None), function, FREE_CLAIM, thing, thing, *rest)
                refused(self, BadMachine(None), function, FREE_CLAIM, other, thing, *rest)
            refused(self, BadSubgroup("group"), function, FREE_CLAIM, other, all_rows(3), *rest)
            refused(self, BadMachine("letters"), function, FREE_CLAIM, self.sub, all_rows(3), *rest)
        for thing in ODD_VALUES + [self.paper[1:]]:
            refused(self, BadPaper("none"), member_spelling, FREE_CLAIM, self.sub, self.lot, thing, None)
        for word in [None, [0], (4,), (True,), (0,) * 201]:
            refused(self, BadWord("none"), member_spelling, FREE_CLAIM, self.sub, self.lot, self.paper, word)
        for thing in ODD_VALUES:
            refused(self, BadClaim(None), members_found, thing, None)
            refused(self, BadSubgroup(None), members_found, FREE_CLAIM, thing)
        refused(self, BadSubgroup("group"), members_found, FREE_CLAIM, other)


def leads_from(steady, start, word):
    """The normal word of a long word, by parts of it."""
    here = start
    for k in range(0, len(word), 100):
        here = normal(steady, here + word[k:k + 100])
    return here


class Found(unittest.TestCase):

    def judge(self, claim, sub, found):
        """Whether what was found is as the document tells."""
        number, lot, paper = found
        self.assertIsInstance(found, tuple)
        self.assertTrue(is_least_form(lot))
        self.assertEqual(lot, held_words(claim, lot))
        self.assertTrue(is_member_paper(claim, sub, lot, paper))
        for at in range(number + 1):
            read = carried(claim, layer(sub, at), ())
            self.assertEqual(read == lot, at == number)

    def test_finite_groups(self):
        for claim in (s3_claim(), d4_claim()):
            steady = Steady(claim)
            for members, gens in all_subgroups(steady).items():
                sub = Subgroup(claim.group, gens)
                found = members_found(claim=claim, sub=sub)
                self.judge(claim, sub, found)
                self.assertEqual({word for word in normals(steady) if takes(found[1], word)}, members)

    def test_endless_groups(self):
        for claim in (ENDLESS, FREE_CLAIM, PLANE_CLAIM, TURNS_CLAIM, MODULAR_CLAIM):
            many = len(claim.group.back)
            told = 0
            for seed in range(8):
                sub = Subgroup(claim.group, chance_words(seed, many, 1 + seed % 3, 4))
                try:
                    found = members_found(claim, sub)
                except TooMany as error:
                    self.assertIn(error.most, (8, 2000))
                    continue
                told += 1
                self.judge(claim, sub, found)
            self.assertGreater(told, 3)

    def test_never_found(self):
        # Words like (0, 0, .., 2, 2, ..) of as many letters each are read by no machine.
        refused(self, TooMany(8), members_found, PLANE_CLAIM, Subgroup(PLANE, [(0, 2)]))
        back = tuple(range(11))
        claim = claim_found(Group(back, []), 2, 0)[2]
        self.assertEqual(members_found(claim, Subgroup(claim.group, [(0, 1) * 10]))[0], 0)
        # Here layers grow beyond all bounds.
        braids = Group(FREE.back, [((0, 2, 0), (2, 0, 2))])
        claim = claim_found(braids, 8, 4)[2]
        refused(self, TooMany(2000), members_found, claim, Subgroup(braids, [(0, 0, 2)]))

    def test_short_spellings_are_told_always(self):
        for claim in (s4_claim(), TURNS_CLAIM):
            for seed in range(10):
                sub = Subgroup(claim.group, chance_words(seed, 3, 2, 6))
                self.judge(claim, sub, members_found(claim, sub))


class Bounds(unittest.TestCase):

    def test_short_spellings_where_all_others_are_too_long(self):
        sub = Subgroup(FREE, [(0, 2), (2, 0)])
        right = members_found(FREE_CLAIM, sub)
        with mock.patch("gatewords.folding.MOST_SPELLED", 0):
            found = members_found(FREE_CLAIM, sub)
            self.assertEqual(found[:2], right[:2])
            self.assertTrue(is_member_paper(FREE_CLAIM, sub, found[1], found[2]))
            # A turn of seven numbers at least, by two gens, and one of four, by three.
            sub = Subgroup(ENDLESS.group, [(0,) * 5, (0,) * 18])
            refused(self, TooMany(1000), members_found, ENDLESS, sub)
            sub = Subgroup(ENDLESS.group, [(0,) * 9, (0,) * 14, ()])
            refused(self, TooMany(1000), members_found, ENDLESS, sub)
            found = members_found(ENDLESS, Subgroup(ENDLESS.group, [(0,) * 3, (0,) * 5]))
            self.assertTrue(is_member_paper(ENDLESS, Subgroup(ENDLESS.group, [(0,) * 3, (0,) * 5]), found[1], found[2]))

    def test_the_last_layer_that_is_looked_at(self):
        real = layer(Subgroup(PLANE, [(0, 0), (2,)]), 1)
        for last in (0, 7, 8, 9):

            class Slow:
                """Layers of which the one of this number is the first that reads all members."""

                def __init__(self, sub, told):
                    self.number = 0
                    self.stays = False

                def go_on(self):
                    self.number += 1

                def machine(self):
                    return real if self.number >= last else Machine(4, [(None,) * 4], [0])

            sub = Subgroup(PLANE, [(0, 0), (2,)])
            with mock.patch("gatewords.findmembers.Layers", Slow):
                if last == 9:
                    refused(self, TooMany(8), members_found, PLANE_CLAIM, sub)
                else:
                    self.assertEqual(members_found(PLANE_CLAIM, sub)[0], last)


class Meets(unittest.TestCase):

    def test_meets_of_all_subgroups(self):
        claim = s3_claim()
        steady = Steady(claim)
        told = all_subgroups(steady)
        for one, other in itertools.product(told, repeat=2):
            lot = meet(claim=claim, lot=just_rows(2, sorted(one)), other=just_rows(2, sorted(other)))
            self.assertEqual({word for word in normals(steady) if takes(lot, word)}, one & other)
            self.assertTrue(is_sublot(claim, lot))
            self.assertTrue(is_least_form(lot))
            sizes = [6 // len(part) for part in (one, other, one & other)]
            self.assertLessEqual(sizes[2], sizes[0] * sizes[1])

    def test_meets_of_cosets(self):
        claim = s3_claim()
        told = [carried(claim, just_rows(2, sorted(one)), word)
                for one in all_subgroups(Steady(claim)) for word in [(), (0,), (1, 0)]]
        for one, other in itertools.product(told[::2], told[1::2]):
            lot = meet(claim, one, other)
            self.assertTrue(lot == no_rows(2) or coset_of(claim, lot) is not None)
        lot = meet(claim, chance_machine(1, 2, 4), chance_machine(2, 2, 4))
        for word in rows(2, 4):
            self.assertEqual(takes(lot, word), takes(claim.words, word) and takes(chance_machine(1, 2, 4), word)
                             and takes(chance_machine(2, 2, 4), word))

    def test_endless_meet(self):
        lots = [members_found(ENDLESS, Subgroup(ENDLESS.group, [(0,) * many]))[1] for many in (4, 6, 12)]
        self.assertEqual(meet(ENDLESS, lots[0], lots[1]), lots[2])
        self.assertEqual(index_of(ENDLESS, lots[2]), 12)

    def test_not_normal(self):
        for claim in (s3_claim(), d4_claim()):
            steady = Steady(claim)
            back = claim.group.back
            for members, gens in all_subgroups(steady).items():
                sub = Subgroup(claim.group, gens)
                lot = just_rows(len(back), sorted(members))
                off = [(k, j) for k in range(len(back)) for j, gen in enumerate(gens)
                       if normal(steady, (back[k],) + gen + (k,)) not in members]
                self.assertEqual(not_normal(claim=claim, sub=sub, lot=lot), off[0] if off else None)
                kept = all({normal(steady, normal(steady, tuple(back[x] for x in word[::-1])) + m + word)
                            for m in members} == set(members) for word in normals(steady))
                self.assertEqual(kept, not off)
        sub = Subgroup(PLANE, [(0, 0), (2,)])
        self.assertIsNone(not_normal(PLANE_CLAIM, sub, members_found(PLANE_CLAIM, sub)[1]))
        sub = Subgroup(FREE, [(0, 0), (2,)])
        self.assertEqual(not_normal(FREE_CLAIM, sub, members_found(FREE_CLAIM, sub)[1]), (0, 1))

    def test_wrong_inputs(self):
        for thing in ODD_VALUES:
            refused(self, BadClaim(None), meet, thing, None, None)
            refused(self, BadMachine(None), meet, FREE_CLAIM, thing, thing)
            refused(self, BadMachine(None), meet, FREE_CLAIM, all_rows(3), thing)
        refused(self, BadMachine("letters"), meet, FREE_CLAIM, all_rows(3), all_rows(4))
        refused(self, BadMachine("letters"), meet, FREE_CLAIM, all_rows(4), all_rows(3))


class MetTables(unittest.TestCase):

    def setUp(self):
        self.groups = [(s3_claim().group, S3_GENS), (s4_claim().group, S4_GENS), (d4_claim().group, D4_GENS)]

    def some_tables(self, group):
        many = len(group.back)
        return [found_table(Subgroup(group, chance_words(seed, many, 2, 3))) for seed in range(8)]

    def test_tables_met(self):
        for group, _ in self.groups:
            told = self.some_tables(group)
            for one, other in itertools.product(told, repeat=2):
                both = tables_met(group=group, one=one, other=other)
                self.assertTrue(is_table(group, both))
                for word in rows(len(group.back), 4):
                    self.assertEqual(goal(both, word) == 0, goal(one, word) == 0 and goal(other, word) == 0)
                self.assertEqual(tables_met(group, one, one), one)

    def test_normal_tables_and_cores(self):
        for group, gens in self.groups:
            for one in self.some_tables(group):
                many = len(group.back)
                words = table_gens(group, one)
                kept = all(state_behind(one, state, word) == state for word in words for state in range(len(one.ways)))
                self.assertEqual(is_normal_table(group=group, table=one), kept)
                core = table_core(group=group, table=one)
                self.assertTrue(is_table(group, core))
                self.assertTrue(is_normal_table(group, core))
                for word in rows(many, 4):
                    inside = all(state_behind(one, state, word) == state for state in range(len(one.ways)))
                    self.assertEqual(goal(core, word) == 0, inside)
                self.assertEqual(core == one, kept)

    def test_all_small_tables(self):
        group = Group((1, 0, 2), [])
        told = Tables.all_tables(self, group, 4)
        normal_ones = 0
        for one in told:
            words = table_gens(group, one)
            kept = all(state_behind(one, state, word) == state for word in words for state in range(len(one.ways)))
            self.assertEqual(is_normal_table(group, one), kept)
            self.assertEqual(table_core(group, one) == one, kept)
            normal_ones += kept
        self.assertEqual((len(told), normal_ones), (34, 8))

    def test_the_greatest_normal_one_within(self):
        group = self.groups[2][0]
        told = Tables.all_tables(self, group, 3) + self.some_tables(group)
        for one in told:
            core = table_core(group, one)
            for other in told:
                if not is_normal_table(group, other):
                    continue
                if all(goal(one, word) == 0 for word in table_gens(group, other)):
                    self.assertTrue(all(goal(core, word) == 0 for word in table_gens(group, other)))

    def test_large_ones(self):
        group = Group((1, 0), [])
        rings = {many: Machine(2, [((k + 1) % many, (k - 1) % many) for k in range(many)], [0]) for many in (40, 41, 50)}
        told = {many: numbered(machine) for many, machine in rings.items()}
        self.assertEqual(len(tables_met(group, told[40], told[50]).ways), 200)
        self.assertEqual(len(tables_met(group, told[40], told[41]).ways), 1640)
        refused(self, TooMany(2000), tables_met, group, told[50], told[41])
        # Letters that come to all permutations of six points make 720 states, of seven 5040.
        for many, core in ((6, 720), (7, None)):
            back = (1, 0, 2)
            ways = [((k + 1) % many, (k - 1) % many, (1, 0)[k] if k < 2 else k) for k in range(many)]
            machine = numbered(Machine(3, ways, [0]))
            self.assertFalse(is_normal_table(Group(back, []), machine))
            if core is None:
                refused(self, TooMany(2000), table_core, Group(back, []), machine)
            else:
                self.assertEqual(len(table_core(Group(back, []), machine).ways), core)

    def test_wrong_inputs(self):
        group = self.groups[0][0]
        one = found_table(Subgroup(group, [(0,)]))
        wrong = Machine(2, one.ways, [])
        for thing in ODD_VALUES:
            refused(self, BadGroup(None), tables_met, thing, None, None)
            refused(self, BadGroup(None), is_normal_table, thing, None)
            refused(self, BadGroup(None), table_core, thing, None)
            refused(self, BadMachine(None), tables_met, group, thing, thing)
            refused(self, BadMachine(None), tables_met, group, wrong, thing)
            refused(self, BadMachine(None), is_normal_table, group, thing)
            refused(self, BadMachine(None), table_core, group, thing)
        refused(self, BadMachine("table"), tables_met, group, wrong, one)
        refused(self, BadMachine("table"), tables_met, group, one, wrong)
        refused(self, BadMachine("table"), is_normal_table, group, wrong)
        refused(self, BadMachine("table"), table_core, group, wrong)


def state_behind(machine, state, word):
    for letter in word:
        state = machine.ways[state][letter]
    return state


def numbered(machine):
    """The same machine, its states numbered as they are first met."""
    order = [0]
    for state in order:
        order.extend(to for to in dict.fromkeys(machine.ways[state]) if to not in order)
    return Machine(machine.letters, [[order.index(to) for to in machine.ways[state]] for state in order], [0])


if __name__ == "__main__":
    unittest.main()
