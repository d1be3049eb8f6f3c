"""Point [40]: faults."""

import itertools
import random
import unittest

from gatewords.claims import Claim
from gatewords.directclaims import claim_direct
from gatewords.errors import BadClaim
from gatewords.faults import fault, is_fault
from gatewords.freeclaims import claim_free
from gatewords.groups import Group
from gatewords.machines import Machine, takes
from gatewords.pairs import is_pair_row, pair_row, words_of
from gatewords.rowmakers import free_rows, just_rows, no_rows
from tests.examples import (acting_claim, cyclic_claim, d4_claim, endless_claim, line_claim, near_of, points_claim,
                            s3_claim, s4_claim, three_claim, two_claim)
from tests.helpers import ODD_VALUES, paired, refused, rows

KINDS = ["empty", "begun", "equal", "pairs", "two", "none", "turned", "step"]


def whole_claims():
    return [three_claim(), cyclic_claim(1), cyclic_claim(2), cyclic_claim(7), two_claim(), endless_claim(), s3_claim(),
            s4_claim(), d4_claim(), points_claim(), line_claim(), claim_free(three_claim(), two_claim()),
            claim_direct(endless_claim(), three_claim()), claim_direct(endless_claim(), endless_claim()),
            claim_free(endless_claim(), two_claim())]


def order(row):
    return (len(row), row)


class Plain:
    """What a claim says of short words, gone through wholly."""

    def __init__(self, claim, most):
        back = claim.group.back
        self.claim = claim
        self.most = most
        self.back = back
        self.words = rows(len(back), most)
        self.normal = {word for word in self.words if takes(claim.words, word)}
        self.taken = []
        for near in claim.nears:
            self.taken.append([row for row in short_rows(near, most)])
        self.pairs = [paired(back, near, most) for near in claim.nears]

    def told(self, kind):
        """All faults of a kind that tell short words alone, the least ones of a letter first."""
        if kind == "empty":
            return [("empty",)] if () not in self.normal else []
        if kind == "begun":
            found = {word[:k] for word in self.normal for k in range(len(word))} - self.normal
            return [("begun", word) for word in sorted(found, key=order)]
        if kind == "equal":
            wanted = {pair_row(self.back, word, word) for word in self.normal}
            return [("equal", row) for row in sorted(wanted ^ set(self.taken[0]), key=order)]
        return [one for letter in range(len(self.back)) for one in self.of_letter(kind, letter)]

    def of_letter(self, kind, letter):
        taken, pairs = self.taken[letter + 1], self.pairs[letter + 1]
        if kind == "pairs":
            wrong = [row for row in taken if not self.fits(row)]
            return [(kind, letter, row) for row in sorted(wrong, key=order)]
        if kind == "two":
            found = [(kind, letter, a, b, c) for a, b in pairs for other, c in pairs if a == other and order(b) < order(c)]
            return sorted(found, key=lambda one: [order(word) for word in one[2:]])
        if kind == "turned":
            other = self.pairs[self.back[letter] + 1]
            found = [(kind, letter, a, b) for a, b in pairs if (b, a) not in other]
            return sorted(found, key=lambda one: order(pair_row(self.back, one[3], one[2])))
        if kind == "step":
            found = [w for w in self.normal if w + (letter,) in self.normal and (w, w + (letter,)) not in pairs]
            return [(kind, letter, w) for w in sorted(found, key=order)]
        return []

    def fits(self, row):
        return is_pair_row(self.back, row) and all(word in self.normal for word in words_of(self.back, row))


def short_rows(near, most):
    found = []
    waiting = [((), 0)]
    while waiting:
        row, state = waiting.pop()
        if state in near.ends:
            found.append(row)
        if len(row) < most:
            waiting.extend((row + (x,), to) for x, to in enumerate(near.ways[state]) if to is not None)
    return found


def spoiled(claim, chance):
    """The claim with one way or end of one machine changed."""
    machines = [claim.words, *claim.nears]
    at = chance.randrange(len(machines))
    machine = machines[at]
    ways = [list(way) for way in machine.ways]
    ends = set(machine.ends)
    if chance.random() < 0.3:
        ends ^= {chance.randrange(len(ways))}
    else:
        way = ways[chance.randrange(len(ways))]
        there = [x for x, to in enumerate(way) if to is not None]
        if there and chance.random() < 0.5:
            way[chance.choice(there)] = None if chance.random() < 0.5 else chance.randrange(len(ways))
        else:
            way[chance.randrange(len(way))] = chance.randrange(len(ways))
    machines[at] = Machine(machine.letters, ways, sorted(ends))
    return Claim(claim.group, machines[0], machines[1:])


def with_near(claim, letter, near):
    nears = list(claim.nears)
    nears[letter + 1] = near
    return Claim(claim.group, claim.words, nears)


class Faults(unittest.TestCase):

    def test_none(self):
        for claim in whole_claims():
            self.assertIsNone(fault(claim=claim))

    def test_no_fault_though_it_does_not_hold(self):
        # The machines of three elements, of a group without the rule, and with a rule that is too much.
        claim = three_claim()
        for rules in [[], [((0,), ())], [((0, 0), ())]]:
            self.assertIsNone(fault(Claim(Group((1, 0), rules), claim.words, claim.nears)))

    def test_each_kind(self):
        claim = three_claim()
        back = (1, 0)
        led = [((), (0,)), ((0,), (1,)), ((1,), ())]

        def with_words(words):
            return Claim(claim.group, words, claim.nears)

        cases = [
            (with_words(no_rows(2)), ("empty",)),
            (with_words(just_rows(2, [(0,), (1,)])), ("empty",)),
            (with_words(just_rows(2, [(), (0,), (1,), (1, 0, 0), (0, 1, 0)])), ("begun", (0, 1))),
            (with_words(just_rows(2, [(), (0,), (1,), (1, 1)])), ("equal", (4, 4))),
            (Claim(claim.group, claim.words, [near_of(back, [((), ()), ((0,), (0,)), ((0,), (1,))])]
                   + list(claim.nears[1:])), ("equal", (1,))),
            (Claim(claim.group, claim.words, [just_rows(9, [(), (0,), (4,), (8,)])] + list(claim.nears[1:])),
             ("equal", (8,))),
            (with_near(claim, 0, near_of(back, led + [((), (0, 0))])), ("pairs", 0, (6, 6))),
            (with_near(claim, 1, just_rows(9, [(6, 2), (8,)])), ("pairs", 1, (8,))),
            (with_near(claim, 0, near_of(back, led + [((), (1,)), ((0,), ())])), ("two", 0, (), (0,), (1,))),
            (with_near(claim, 0, near_of(back, led[1:])), ("none", 0, ())),
            (with_near(claim, 1, near_of(back, [((), (1,)), ((0,), ())])), ("none", 1, (1,))),
            (with_near(claim, 0, near_of(back, [((), (0,)), ((0,), ()), ((1,), (1,))])), ("turned", 0, (1,), (1,))),
            (with_near(claim, 0, near_of(back, [((), (0,)), ((0,), (0,)), ((1,), (1,))])), ("turned", 0, (0,), (0,))),
        ]
        same = near_of(back, [(a, a) for a in [(), (0,), (1,)]])
        still = Claim(claim.group, claim.words, [claim.nears[0], same, same])
        cases.append((still, ("step", 0, ())))
        longer = acting_claim(back, [[1, 2, 0], [2, 0, 1]], [])
        words = just_rows(2, [(), (0,), (0, 0)])
        other = near_of(back, [(w, w) for w in [(), (0,), (0, 0)]])
        swap = near_of(back, [((), (0,)), ((0,), ()), ((0, 0), (0, 0))])
        cases.append((Claim(longer.group, words, [other, swap, swap]), ("step", 0, (0,))))
        for one, wanted in cases:
            self.assertEqual(fault(one), wanted)
            self.assertIs(is_fault(one, wanted), True)
            self.assertIs(is_fault(claim, wanted), False)

    def test_first_of_several(self):
        claim = three_claim()
        back = (1, 0)
        bad = near_of(back, [((), (0,)), ((), (1,)), ((0, 0), ())])
        both = Claim(claim.group, claim.words, [claim.nears[0], bad, bad])
        self.assertEqual(fault(both), ("pairs", 0, (2, 2)))
        self.assertEqual(fault(with_near(both, 0, claim.nears[1])), ("pairs", 1, (2, 2)))
        # "two" of letter 1 comes ahead of "none" of letter 0.
        two = near_of(back, [((), (0,)), ((0,), (0,)), ((0,), ()), ((1,), (0,))])
        mixed = Claim(claim.group, claim.words, [claim.nears[0], near_of(back, [((), (0,))]), two])
        self.assertEqual(fault(mixed), ("two", 1, (0,), (), (0,)))
        # The least pair row of b and a, not of a and b.
        turned = near_of(back, [((), (1,)), ((0,), ()), ((1,), (0,))])
        self.assertEqual(fault(with_near(claim, 0, turned)), ("turned", 0, (1,), (0,)))

    def test_spoiled(self):
        chance = random.Random(5)
        kinds = set()
        for claim in [three_claim(), two_claim(), cyclic_claim(4), endless_claim(), s3_claim()]:
            for _ in range(60):
                one = spoiled(claim, chance)
                if chance.random() < 0.5:
                    one = spoiled(one, chance)
                found = fault(one)
                plain = Plain(one, 3 if len(claim.group.back) == 2 else 2)
                self.compare(one, found, plain)
                kinds.add(found and found[0])
        self.assertLessEqual({"empty", "begun", "equal", "pairs", "two", "none", "turned"}, kinds)

    def test_through_all_maps_of_three_words(self):
        told = {}
        for back, words in [((1, 0), [(), (0,), (1,)]), ((1, 0), [(), (0,), (0, 0)]), ((0, 1), [(), (1,), (1, 0)])]:
            same = near_of(back, [(word, word) for word in words])
            nears = [near_of(back, list(zip(words, goals))) for goals in itertools.product(words, repeat=3)]
            for one, other in itertools.product(nears, repeat=2):
                claim = Claim(Group(back, []), just_rows(2, words), [same, one, other])
                found = fault(claim)
                plain = Plain(claim, 3)
                self.compare(claim, found, plain)
                if found is None:
                    self.assertTrue(self.leads_on(back, words, plain))
                told[found and found[0]] = told.get(found and found[0], 0) + 1
        self.assertEqual(set(told), {None, "turned", "step"})

    def leads_on(self, back, words, plain):
        """Whether each letter leads the words to one another, back by the opposite one, and on by itself."""
        for letter, opposite in enumerate(back):
            goals = dict(plain.pairs[letter + 1])
            if sorted(goals) != sorted(words) or sorted(goals.values()) != sorted(words):
                return False
            if any(dict(plain.pairs[opposite + 1])[goals[word]] != word for word in words):
                return False
            if any(word + (letter,) in words and goals[word] != word + (letter,) for word in words):
                return False
        return True

    def compare(self, claim, found, plain):
        self.assertTrue(found is None or is_fault(claim, found))
        for kind in KINDS:
            told = plain.told(kind)
            for one in told:
                self.assertIs(is_fault(claim, one), True)
            if found is not None and kind == found[0]:
                short = all(len(part) <= plain.most for part in found[1:] if isinstance(part, tuple))
                # What begins a longer normal word alone, or is led nowhere, is not told by short words.
                if short and kind not in ("begun", "none"):
                    self.assertEqual(found, told[0])
                elif told:
                    self.assertLessEqual(self.place(found), self.place(told[0]))
                return
            self.assertEqual(told, [])

    def place(self, one):
        """What faults of one kind are ordered by: their letter and then the least word or row."""
        parts = one[1:]
        if one[0] == "turned":
            return parts[:1]
        return tuple(order(part) if isinstance(part, tuple) else part for part in parts)

    def test_kinds_of_each(self):
        chance = random.Random(9)
        claims = [spoiled(claim, chance) for claim in [three_claim(), two_claim()] for _ in range(12)]
        words = rows(2, 2)
        for claim in claims:
            plain = Plain(claim, 2)
            told = {kind: set(plain.told(kind)) for kind in KINDS}
            for word in words:
                self.assertIs(is_fault(claim, ("begun", word)), self.begun(claim, word))
            for row in rows(9, 2):
                self.assertIs(is_fault(claim, ("equal", row)), ("equal", row) in told["equal"])
                for letter in (0, 1):
                    self.assertIs(is_fault(claim, ("pairs", letter, row)), ("pairs", letter, row) in told["pairs"])
            for letter in (0, 1):
                for word in rows(2, 1):
                    self.assertIs(is_fault(claim, ("step", letter, word)), ("step", letter, word) in told["step"])
                for a, b in itertools.product(words, words):
                    self.assertIs(is_fault(claim, ("turned", letter, a, b)), ("turned", letter, a, b) in told["turned"])
                    for c in words:
                        one = ("two", letter, a, b, c)
                        self.assertIs(is_fault(claim, one), one in told["two"])

    def begun(self, claim, word):
        further = [takes(claim.words, word + end) for end in rows(2, 4)]
        return any(further) and not further[0]

    def test_none_judged(self):
        claim = with_near(endless_claim(), 0, near_of((1, 0), [((), (0,)), ((1,), ())]))
        self.assertEqual(fault(claim), ("none", 0, (0,)))
        self.assertIs(is_fault(claim, ("none", 0, ())), False)
        self.assertIs(is_fault(claim, ("none", 0, (0, 0, 0))), True)
        self.assertIs(is_fault(claim, ("none", 0, (0, 1))), False)
        self.assertIs(is_fault(claim, ("none", 1, (0,))), False)
        self.assertIs(is_fault(claim, ("none", 0, (0,) * 5000)), True)
        # Partners of any length count.
        far = Machine(9, [[None] * 6 + [k + 1, None, None] for k in range(300)] + [[None] * 9], [300])
        self.assertIs(is_fault(with_near(claim, 0, far), ("none", 0, ())), False)

    def test_near_faults_and_other_kinds(self):
        claim = with_near(three_claim(), 0, near_of((1, 0), [((), (0,)), ((), (1,)), ((0, 0), ()), ((0,), (0,))]))
        right = [("pairs", 0, (2, 2)), ("two", 0, (), (0,), (1,)), ("none", 0, (1,)), ("turned", 0, (), (1,)),
                 ("turned", 1, (1,), (0,))]
        for one in right:
            self.assertIs(is_fault(claim=claim, thing=one), True, one)
        wrong = [["pairs", 0, (2, 2)], ("pairs", False, (2, 2)), ("pairs", 0, [2, 2]), ("pairs", 0, (2, 2), ()),
                 ("pairs", 0), ("pairs", 2, (2, 2)), ("pairs", -1, (2, 2)), ("pairs", 0, (2, 9)), ("pairs", 0, (2, True)),
                 ("pairs", None, (2, 2)), ("two", 0, (), (1,), (0,)), ("two", 0, (), (0,), (0,)),
                 ("two", 0, (), (0,)), ("two", 0, [], (0,), (1,)), ("two", 0, (), (0,), (2,)), ("two", 1, (), (0,), (1,)),
                 ("none", 0, ()), ("none", 0, (1, 1)), ("none", 0, (True,)), ("turned", 0, (), (0,)),
                 ("turned", 0, (1,), ()), ("turned", 0, (), None), ("empty",), ("empty", ()), "empty", ("begun", (0,)),
                 ("begun", (0, 0)), ("begun", None), ("equal", (0,)), ("equal", (True,)), ("equal",), ("equal", 4),
                 ("none", False, (1,)), ("none", 2, (1,)), ("none", None, (1,)), ("step", False, ()), ("step", 2, ()),
                 ("step", 0, None), ("step", 0, [1]), ("step", 0, (1,)), ("step", 0), ("Pairs", 0, (2, 2)), (b"pairs", 0, (2, 2)), (0, 0, (2, 2))]
        for thing in ODD_VALUES + wrong:
            self.assertIs(is_fault(claim, thing), False, repr(thing))

    def test_words_that_lead_to_no_normal_one(self):
        # Words of two letters lead to a state that is no end, so that they are not normal.
        claim = three_claim()
        words = Machine(2, [(1, 1), (2, 2), (None, None)], [0, 1])
        self.assertIsNone(fault(Claim(claim.group, words, claim.nears)))
        led = [((), (0,)), ((0,), (1,)), ((1,), ())]
        for pair, row in [(((0, 0), ()), (2, 2)), (((), (1, 1)), (7, 7)), (((0, 1), (1, 0)), (1, 3)), (((0,), (1, 0)), (1, 6))]:
            wider = Claim(claim.group, words, [claim.nears[0], near_of((1, 0), led + [pair]), claim.nears[2]])
            self.assertEqual(fault(wider), ("pairs", 0, row))
        # Of words that are not normal, though longer ones are, nothing is asked.
        gone = Claim(claim.group, just_rows(2, [(), (0, 0), (0, 0, 0)]), claim.nears)
        self.assertIs(is_fault(gone, ("step", 0, (0, 0))), True)
        self.assertIs(is_fault(gone, ("step", 0, (0,))), False)
        self.assertIs(is_fault(gone, ("begun", (0,))), True)

    def test_wide_words(self):
        # A pair row may begin with numbers of ended words; both ended is never one.
        claim = with_near(endless_claim(), 0, Machine(9, [[None] * 8 + [0]], [0]))
        self.assertEqual(fault(claim), ("pairs", 0, (8,)))
        claim = Claim(Group((1, 0), []), free_rows(2, []), endless_claim().nears)
        self.assertEqual(fault(claim), ("equal", (0, 4)))

    def test_errors(self):
        for thing in ODD_VALUES + [THREE_GROUP]:
            refused(self, BadClaim(None), fault, thing)
            refused(self, BadClaim(None), is_fault, thing, None)


THREE_GROUP = Group((1, 0), [])


if __name__ == "__main__":
    unittest.main()
