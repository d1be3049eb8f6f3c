"""Points [70] to [72]: claims renamed, and claims of free and direct products."""

import random
import unittest

from gatewords.claims import Claim, says
from gatewords.composing import composed
from gatewords.directclaims import claim_direct
from gatewords.errors import BadClaim, BadGroup, BadNumber, TooMany
from gatewords.freeclaims import claim_free
from gatewords.groups import Group
from gatewords.leastforms import is_least_form
from gatewords.machines import Machine, takes
from gatewords.pairmakers import turned_pairs
from gatewords.pairs import pair_row
from gatewords.products import direct_product, free_product, from_syllables, halves, syllables
from gatewords.renaming import claim_renamed, renamed
from gatewords.rowcounts import row_fraction
from gatewords.rowmakers import all_rows, just_rows
from tests.examples import cyclic_claim, endless_claim, near_of, three_claim, two_claim
from tests.helpers import ODD_VALUES, chance_machine, chance_near, refused, rows


def chance_claim(seed, back):
    """Machines by chance, claimed to tell a group, which they do not."""
    chance = random.Random(seed)
    nears = [chance_near(31 * seed + k, back, chance.randrange(1, 4), chance.choice([0.5, 0.75]))
             for k in range(len(back) + 1)]
    return Claim(Group(back, []), chance_machine(seed, len(back), chance.randrange(1, 4)), nears)


def free_claim():
    """All words, and those of them that are one or two letters longer or shorter."""
    back = (0, 1)
    words = [(), (0,), (1,), (0, 1), (1, 0), (1, 1)]
    led = [(a, b) for a in words for b in words if len(a) != len(b)]
    nears = [near_of(back, []), near_of(back, led), near_of(back, led[::2])]
    return Claim(Group(back, []), all_rows(2), nears)


def product(one, other):
    """The product of two rows of numbers, as polynomials."""
    found = [0] * (len(one) + len(other) - 1)
    for k, a in enumerate(one):
        for j, b in enumerate(other):
            found[k + j] += a * b
    return found


def total(one, other, times=1):
    size = max(len(one), len(other))
    return [a + times * b for a, b in zip(list(one) + [0] * (size - len(one)), list(other) + [0] * (size - len(other)))]


def same_numbers(one, other):
    return not any(total(one, other, -1))


class Renaming(unittest.TestCase):

    def test_groups(self):
        group = Group((1, 0, 2), [((0, 2), (1,)), ((2, 2, 2), ())])
        self.assertEqual(renamed(group=group, order=[2, 0, 1]), Group((0, 2, 1), [((1, 0), (2,)), ((0, 0, 0), ())]))
        self.assertEqual(renamed(group, (0, 1, 2)), group)
        self.assertEqual(renamed(Group((1, 0, 3, 2), [((0,), (2, 3))]), (3, 1, 2, 0)),
                         Group((2, 3, 0, 1), [((3,), (2, 0))]))
        for order in [(1, 2, 0), (2, 1, 0), (2, 0, 1)]:
            undoing = [order.index(k) for k in range(3)]
            new = renamed(group, order)
            self.assertEqual(renamed(new, undoing), group)
            self.assertEqual([order[k] for k in new.back], [group.back[order[k]] for k in range(3)])

    def test_errors(self):
        group = Group((1, 0), [])
        claim = three_claim()
        for thing in ODD_VALUES:
            refused(self, BadGroup(None), renamed, thing, None)
            refused(self, BadClaim(None), claim_renamed, thing, None)
        for order in [None, 3, "01", [0], [0, 0], [0, 1, 2], [True, 0], [1, 2], [0.0, 1], {0: 1, 1: 0}, [None, 0],
                      [[0], [1]], [0, 1, 1]]:
            refused(self, BadNumber("order"), renamed, group, order)
            refused(self, BadNumber("order"), claim_renamed, claim, order)

    def test_claims(self):
        claims = [chance_claim(seed, (1, 0)) for seed in range(12)] + [three_claim(), endless_claim()]
        for claim in claims:
            new = claim_renamed(claim=claim, order=[1, 0])
            self.assertEqual(new.group, renamed(claim.group, [1, 0]))
            for machine in (new.words,) + new.nears:
                self.assertIs(is_least_form(machine), True)
            for one in rows(2, 3):
                turned = tuple(1 - k for k in one)
                self.assertIs(takes(new.words, one), takes(claim.words, turned))
                for other in rows(2, 3):
                    for letter, old in ((None, None), (0, 1), (1, 0)):
                        self.assertIs(says(new, letter, one, other),
                                      says(claim, old, turned, tuple(1 - k for k in other)))
            self.assertEqual(claim_renamed(new, (1, 0)), claim_renamed(claim, (0, 1)))

    def test_all_numbers_are_read_so(self):
        # Also rows that are no pair rows, (n, n) in them.
        near = just_rows(9, [(8, 0), (6, 3), (1, 8, 5)])
        claim = Claim(Group((1, 0), []), all_rows(2), [near] * 3)
        new = claim_renamed(claim, [1, 0])
        self.assertEqual(new.nears, (just_rows(9, [(8, 4), (7, 1), (3, 8, 2)]),) * 3)

    def test_three_letters(self):
        claim = chance_claim(5, (1, 0, 2))
        new = claim_renamed(claim, [2, 0, 1])
        for one in rows(3, 2):
            for other in rows(3, 2):
                for letter in range(3):
                    old = (2, 0, 1)
                    self.assertIs(says(new, letter, one, other),
                                  says(claim, old[letter], tuple(old[k] for k in one), tuple(old[k] for k in other)))


class Products(unittest.TestCase):

    def check_machines(self, claim, group):
        self.assertEqual(claim.group, group)
        for machine in (claim.words,) + claim.nears:
            self.assertIs(is_least_form(machine), True)
        for near in claim.nears:
            # Turned twice it pairs the same words, and takes pair rows alone.
            self.assertEqual(turned_pairs(group.back, turned_pairs(group.back, near)), near)


class Free(Products):

    def split(self, one, other, side, word):
        parts = syllables(one.group, other.group, word)
        if parts and parts[-1][0] == side:
            return from_syllables(one.group, other.group, parts[:-1]), parts[-1][1]
        return word, ()

    def check(self, one, other, most):
        claim = claim_free(one, other)
        self.check_machines(claim, free_product(one.group, other.group))
        first = len(one.group.back)
        sides = (one, other)
        words = rows(len(claim.group.back), most)
        normal = {word: all(takes(sides[side].words, part) for side, part in
                            syllables(one.group, other.group, word)) for word in words}
        for a in words:
            self.assertIs(takes(claim.words, a), normal[a])
            for b in words:
                self.assertIs(says(claim, None, a, b), a == b and normal[a])
                for letter in range(len(claim.group.back)):
                    side = int(letter >= first)
                    near = sides[side].nears[letter - side * first + 1]
                    front, s = self.split(one, other, side, a)
                    other_front, t = self.split(one, other, side, b)
                    wanted = normal[a] and normal[b] and front == other_front \
                        and takes(near, pair_row(sides[side].group.back, s, t))
                    self.assertIs(says(claim, letter, a, b), wanted)

    def test_by_words(self):
        for seed in range(8):
            self.check(chance_claim(2 * seed, (1, 0)), chance_claim(2 * seed + 1, (0, 1)), 3)
        self.check(three_claim(), two_claim(), 3)
        self.check(endless_claim(), three_claim(), 3)
        self.check(chance_claim(3, (1, 0, 2)), chance_claim(4, (0, 1)), 2)

    def check_series(self, one, other):
        (a, under_a), (b, under_b) = row_fraction(one.words), row_fraction(other.words)
        s, under = row_fraction(claim_free(one, other).words)
        # A * B = S * (A + B - A * B), with all three over their unders.
        left = product(product(a, b), under)
        right = product(s, total(total(product(a, under_b), product(b, under_a)), product(a, b), -1))
        self.assertTrue(same_numbers(left, right))

    def test_series(self):
        claims = [three_claim(), two_claim(), endless_claim(), cyclic_claim(5)]
        for one in claims:
            for other in claims:
                self.check_series(one, other)

    def test_letters_undo_and_commute_with_no_others(self):
        claim = claim_free(one=three_claim(), other=two_claim())
        back = claim.group.back
        for letter in range(4):
            there = composed(back, claim.nears[letter + 1], claim.nears[back[letter] + 1])
            self.assertEqual(there, claim.nears[0])
        self.assertNotEqual(composed(back, claim.nears[1], claim.nears[3]),
                            composed(back, claim.nears[3], claim.nears[1]))
        self.assertEqual(claim.nears[3], claim.nears[4])


class Direct(Products):

    def check(self, one, other, most):
        claim = claim_direct(one, other)
        self.check_machines(claim, direct_product(one.group, other.group))
        first = len(one.group.back)
        words = rows(len(claim.group.back), most)
        parted = {word: halves(one.group, other.group, word) for word in words}
        normal = {}
        for word, (left, right) in parted.items():
            straight = word == left + tuple(k + first for k in right)
            normal[word] = straight and takes(one.words, left) and takes(other.words, right)
        for a in words:
            self.assertIs(takes(claim.words, a), normal[a])
            for b in words:
                self.assertIs(says(claim, None, a, b), a == b and normal[a])
                for letter in range(len(claim.group.back)):
                    wanted = normal[a] and normal[b]
                    if letter < first:
                        wanted = wanted and parted[a][1] == parted[b][1] and takes(
                            one.nears[letter + 1], pair_row(one.group.back, parted[a][0], parted[b][0]))
                    else:
                        wanted = wanted and parted[a][0] == parted[b][0] and takes(
                            other.nears[letter - first + 1],
                            pair_row(other.group.back, parted[a][1], parted[b][1]))
                    self.assertIs(says(claim, letter, a, b), wanted)

    def test_by_words(self):
        made = 0
        for seed in range(12):
            one, other = chance_claim(2 * seed, (1, 0)), chance_claim(2 * seed + 1, (0, 1))
            try:
                claim_direct(one, other)
            except TooMany:
                continue
            self.check(one, other, 3)
            made += 1
        self.assertGreater(made, 5)
        self.check(three_claim(), two_claim(), 4)
        self.check(free_claim(), free_claim(), 4)
        self.check(endless_claim(), endless_claim(), 4)
        self.check(endless_claim(), three_claim(), 4)

    def test_series(self):
        claims = [three_claim(), two_claim(), endless_claim(), cyclic_claim(5)]
        for one in claims:
            for other in claims:
                (a, under_a), (b, under_b) = row_fraction(one.words), row_fraction(other.words)
                s, under = row_fraction(claim_direct(one, other).words)
                self.assertTrue(same_numbers(product(product(a, b), under), product(s, product(under_a, under_b))))

    def test_letters_commute(self):
        for one, other in [(three_claim(), endless_claim()), (endless_claim(), endless_claim())]:
            claim = claim_direct(one=one, other=other)
            back = claim.group.back
            for letter in range(4):
                there = composed(back, claim.nears[letter + 1], claim.nears[back[letter] + 1])
                self.assertEqual(there, claim.nears[0])
            for left in (1, 2):
                for right in (3, 4):
                    self.assertEqual(composed(back, claim.nears[left], claim.nears[right]),
                                     composed(back, claim.nears[right], claim.nears[left]))

    def test_words_that_are_held_back(self):
        # One word is longer by 12 letters: they are held back of all words of other.
        led = [((), (0,) * 12), ((0,) * 12, ())]
        near = near_of((1, 0), led)
        one = Claim(Group((1, 0), []), just_rows(2, [(), (0,) * 12]), [near] * 3)
        claim = claim_direct(one, endless_claim())
        for many in (0, 1, 11, 12, 13, 40):
            for letter in (2, 3):
                tail = (letter,) * many
                self.assertIs(says(claim, 0, tail, (0,) * 12 + tail), True)
                self.assertIs(says(claim, 1, (0,) * 12 + tail, tail), True)
                self.assertIs(says(claim, 0, tail, (0,) * 12 + tail + (letter,)), False)
        self.assertIs(is_least_form(claim.nears[1]), True)

    def test_too_many_states(self):
        # Eleven letters held back of all words of two letters are more than 2000 rows.
        near = near_of((1, 0), [((), (0,) * 11)])
        one = Claim(Group((1, 0), []), just_rows(2, [(), (0,) * 11]), [near] * 3)
        free = Claim(Group((0, 1), []), all_rows(2), [near_of((0, 1), [])] * 3)
        refused(self, TooMany(2000), claim_direct, one, free)
        near = near_of((1, 0), [((), (0,) * 8)])
        one = Claim(Group((1, 0), []), just_rows(2, [(), (0,) * 8]), [near] * 3)
        claim = claim_direct(one, free)
        self.assertIs(says(claim, 0, (2, 3) * 8, (0,) * 8 + (2, 3) * 8), True)
        self.assertIs(says(claim, 0, (2, 3) * 8, (0,) * 8 + (3, 2) * 8), False)


class Errors(unittest.TestCase):

    def test_errors(self):
        three = three_claim()
        eleven = Claim(Group(tuple(range(11)), []), Machine(11, [[None] * 11], []), [Machine(144, [[None] * 144], [])] * 12)
        many = Claim(Group((1, 0), [((), ())] * 40), three.words, three.nears)
        for function in (claim_free, claim_direct):
            for thing in ODD_VALUES:
                refused(self, BadClaim(None), function, thing, three)
                refused(self, BadClaim(None), function, three, thing)
            refused(self, TooMany(12), function, eleven, three)
            refused(self, TooMany(12), function, many, eleven)
            refused(self, TooMany(40), function, many, three)
        full = Claim(Group((1, 0), [((), ())] * 38), three.words, three.nears)
        self.assertEqual(len(claim_free(full, three).group.rules), 39)
        self.assertEqual(len(claim_direct(full, three).group.rules), 40)
        more = Claim(Group((1, 0), [((), ())] * 39), three.words, three.nears)
        self.assertEqual(len(claim_free(more, three).group.rules), 40)
        refused(self, TooMany(40), claim_direct, more, three)

    def test_too_many_words(self):
        ring = Machine(2, [[(k + 1) % 1200, None] for k in range(1200)], [0])
        near = near_of((1, 0), [])
        claim = Claim(Group((1, 0), []), ring, [near] * 3)
        for function in (claim_free, claim_direct):
            refused(self, TooMany(2000), function, claim, claim)


if __name__ == "__main__":
    unittest.main()
