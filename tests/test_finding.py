"""Points 36 and 37: pairs of words led by differences, and claims and papers found."""

import random
import unittest

from gatewords.claims import Claim, says
from gatewords.differences import difference_path, short_differences
from gatewords.errors import BadGroup, BadNumber, BadSteady, BadSystem, BadWord, TooMany
from gatewords.faults import fault
from gatewords.finding import claim_found, claim_made, paper_spanned
from gatewords.groups import Group
from gatewords.judgeds import Judged
from gatewords.leastforms import is_least_form
from gatewords.ledpairs import claim_of, led_pairs, unled_words
from gatewords.letters import rank
from gatewords.loops import loops
from gatewords.machines import takes
from gatewords.normals import is_alike, normal
from gatewords.pairs import pair_row
from gatewords.papers import is_paper
from gatewords.ruleways import broken
from gatewords.rowmakers import just_rows
from gatewords.shortness import is_least
from gatewords.spans import spanned
from gatewords.steadies import Steady
from gatewords.systems import System, reduced
from tests.examples import THREE, cyclic_claim, line_claim, s3_claim, three_claim
from tests.helpers import ODD_VALUES, refused, rows
from tests.test_spans import DOUBLING, FREE, PLANE, S3, leasts_alike, rules_at
from tests.test_systems import chance_system

S4 = Group((0, 1, 2), [((0, 1, 0), (1, 0, 1)), ((1, 2, 1), (2, 1, 2)), ((0, 2), (2, 0))])
TURNS = Group((0, 1, 2), [((0, 1) * 3, ()), ((1, 2) * 3, ()), ((0, 2) * 3, ())])
BRAIDS = Group(FREE, [((0, 2, 0), (2, 0, 2))])


def plainly_led(system, words, goal, one, other):
    """Whether all differences of two words are among some words, the last one being the goal."""
    path = difference_path(system, one, other)
    return all(difference in words for difference in path) and path[-1] == goal


class Led(unittest.TestCase):

    def systems(self):
        for seed in range(6):
            system = chance_system(seed, (1, 0), 3, 3)
            yield system, sorted({(), (0,), (1,), (0, 1), (0, 0, 1), reduced(system, (1, 1))}, key=rank)
        for group, span in ((THREE, 4), (S3, 6)):
            system = spanned(group, span)
            yield system, short_differences(system, 2)

    def test_pairs(self):
        words = rows(2, 4)
        for system, told in self.systems():
            for goal in [(), told[-1], (1, 1, 1, 1)]:
                machine = led_pairs(system=system, words=told, goal=goal)
                self.assertTrue(is_least_form(machine))
                for one in words:
                    for other in words[::2]:
                        self.assertEqual(takes(machine, pair_row((1, 0), one, other)),
                                         plainly_led(system, told, goal, one, other))
                # What is no pair row is not taken.
                for row in [(8,), (8, 0), (0, 8), (2, 1), (6, 3), (2, 6), (6, 2), (0, 2, 4)]:
                    self.assertFalse(takes(machine, row))

    def test_no_letters(self):
        system = System((1, 0), [])
        self.assertTrue(takes(led_pairs(system, [()], ()), ()))
        self.assertFalse(takes(led_pairs(system, [()], (0,)), ()))
        self.assertEqual(led_pairs(system, [()], ()).ways, ((None,) * 9,))

    def test_unled_words(self):
        words = rows(2, 5)
        for system, told in self.systems():
            machine = unled_words(system=system, words=tuple(told))
            self.assertTrue(is_least_form(machine))
            led = {one for place, one in enumerate(words) for other in words[:place]
                   if plainly_led(system, told, (), one, other)}
            for word in words:
                parts = {word[k:m] for k in range(6) for m in range(k, len(word) + 1)}
                self.assertEqual(takes(machine, word), not parts & led, (system.rules, told, word))

    def test_most_words(self):
        system = System((1, 0), [])
        words = rows(2, 7)
        self.assertTrue(is_least_form(led_pairs(system, words[:200], ())))
        self.assertTrue(is_least_form(unled_words(system, words[:200])))
        refused(self, BadSystem("words"), led_pairs, system, words[:201], ())
        refused(self, BadSystem("words"), unled_words, system, words[:201])
        refused(self, BadSystem("words"), claim_of, Group((1, 0), []), system, words[:201])

    def test_wrong_inputs(self):
        system = System((1, 0), [])
        for thing in ODD_VALUES:
            refused(self, BadSystem(None), led_pairs, thing, None, None)
            refused(self, BadSystem(None), unled_words, thing, None)
            refused(self, BadSystem(None), claim_of, THREE, thing, None)
            refused(self, BadGroup(None), claim_of, thing, None, None)
            if thing not in ([()], ((),)):
                refused(self, BadSystem("words"), led_pairs, system, thing, None)
                refused(self, BadSystem("words"), unled_words, system, thing)
                refused(self, BadSystem("words"), claim_of, THREE, system, thing)
        for words in ([(0,)], [(), ()], [(), (1,), (0,)], [(), (2,)], [(), (True,)], [(), [0]], [[]]):
            refused(self, BadSystem("words"), led_pairs, system, words, ())
        for goal in (None, [0], (2,), (True,), 0):
            refused(self, BadWord("no goal"), led_pairs, system, [()], goal)
        refused(self, BadSystem("back"), claim_of, S3, system, None)


class Claims(unittest.TestCase):

    def test_claim_of(self):
        for group, span, short in ((THREE, 4, 1), (S3, 4, 2), (S3, 6, 0)):
            system = spanned(group, span)
            words = short_differences(system, short)
            claim = claim_of(group=group, system=system, words=words)
            self.assertEqual(claim, claim_made(group=group, most=span, short=short))
            self.assertEqual((claim.group, claim.words), (group, unled_words(system, words)))
            self.assertTrue(all(is_least_form(near) for near in claim.nears))
            taken = [word for word in rows(2, 4) if takes(claim.words, word)]
            for letter in [None, 0, 1]:
                goal = () if letter is None else reduced(system, (letter,))
                for one in rows(2, 4)[::2]:
                    for other in rows(2, 4)[::3]:
                        told = one in taken and other in taken and plainly_led(system, words, goal, one, other)
                        self.assertEqual(says(claim, letter, one, other), told)

    def test_a_goal_that_is_no_difference(self):
        system = System((1, 0), [])
        claim = claim_of(THREE, system, [(), (1, 0)])
        self.assertEqual([near.ends for near in claim.nears[1:]], [(), ()])

    def test_example(self):
        span, length, claim = claim_found(group=THREE, most=4, short=2)
        self.assertEqual((span, length), (4, 0))
        self.assertEqual(claim.words, just_rows(2, [(), (0,), (1,)]))
        self.assertEqual(claim.nears[1], just_rows(9, [(6,), (1,), (5,)]))
        self.assertIsInstance(claim_found(THREE, 4, 0), tuple)
        self.assertIsNone(claim_found(THREE, 3, 2))
        self.assertIsNone(claim_found(THREE, 2, 2))

    def holding(self):
        return [(THREE, 40, 8), (S3, 40, 8), (S4, 40, 8), (PLANE, 12, 3), (TURNS, 12, 3), (BRAIDS, 8, 4),
                (Group(FREE, []), 2, 0), (Group((0, 1), []), 40, 0), (Group((0, 2, 1), [((1, 1, 1), ())]), 40, 8)]

    def test_claims_found_hold(self):
        chance = random.Random(5)
        for group, most, short in self.holding():
            span, length, claim = claim_found(group, most, short)
            self.assertEqual(claim, claim_made(group, span, length))
            self.assertIsNone(fault(claim))
            steady = Steady(claim)
            self.assertIsNone(broken(steady))
            self.assertTrue(is_least(steady))
            papers = []
            at = 2
            while at < 21 and rules_at(group, at) < 141:
                papers.append(paper_spanned(steady, at))
                at += 1
            self.assertTrue(any(paper is not None for paper in papers))
            for paper in papers:
                if paper is not None:
                    self.assertTrue(is_paper(steady, paper))
                    self.assertEqual(Judged(claim, paper).claim, claim)
            system = spanned(group, span)
            for _ in range(20):
                word = tuple(chance.randrange(len(group.back)) for _ in range(7))
                self.assertTrue(is_alike(steady, word, reduced(system, word)))

    def test_the_least_span_and_length(self):
        for group, most, short in self.holding():
            span, length, _ = claim_found(group, most, short)
            room = max([2] + [len(side) for rule in group.rules for side in rule])
            for at in range(room, span + 1):
                for size in range(short + 1 if at < span else length):
                    claim = claim_made(group, at, size)
                    self.assertTrue(fault(claim) is not None or broken(Steady(claim)) is not None)
            if span > room:
                self.assertIsNone(claim_found(group, span - 1, short))
            if length:
                found = claim_found(group, span, length - 1)
                self.assertIsNone(found)

    def test_never_too_little_never_untrue(self):
        # Of S3 all is known: what a claim made at any span pairs is alike, and least words are taken.
        whole = Steady(s3_claim())
        leasts = {word for word, least in leasts_alike(S3, 5).items() if word == least and len(word) <= 3}
        for span in range(2, 7):
            for short in range(3):
                claim = claim_made(S3, span, short)
                for word in leasts:
                    self.assertTrue(takes(claim.words, word))
                for one in rows(2, 3):
                    for other in rows(2, 3):
                        for letter in (None, 0, 1):
                            if says(claim, letter, one, other):
                                behind = one if letter is None else one + (letter,)
                                self.assertEqual(normal(whole, behind), normal(whole, other))

    def test_groups_that_are_not_found(self):
        self.assertIsNone(claim_found(DOUBLING, 8, 2))
        self.assertIsNone(claim_found(Group((1, 0), [((0,) * 7, ())]), 6, 2))

    def test_too_many(self):
        first = next(span for span in range(3, 20) if rules_at(DOUBLING, span) == 141)
        refused(self, TooMany(140), claim_made, DOUBLING, first, 0)
        refused(self, TooMany(140), claim_found, DOUBLING, first, 0)
        free = Group((1, 0, 3, 2, 5, 4), [])
        refused(self, TooMany(3000), claim_made, free, 2, 5)
        refused(self, TooMany(3000), claim_found, Group(free.back, [((0, 2), (2, 0, 4))]), 3, 8)
        wide = Group((0, 1, 2, 3, 4, 5, 6, 7), [((4, 4, 2), (0, 7, 6, 0)), ((3, 2, 5, 2), (4, 5, 4)), ((7, 1, 1), (5, 6, 6, 0)), ((3, 6, 0), (1, 0, 2, 0)), ((2, 2, 0, 1), (2, 4, 5))])
        self.assertGreater(len(short_differences(spanned(wide, 4), 5)), 100)
        refused(self, TooMany(200), claim_made, wide, 4, 6)

        # What was found ends the search ahead of what would be too many.
        self.assertEqual(claim_found(free, 40, 8)[:2], (2, 0))

    def test_wrong_inputs(self):
        for thing in ODD_VALUES:
            refused(self, BadGroup(None), claim_made, thing, None, None)
            refused(self, BadGroup(None), claim_found, thing, None, None)
            refused(self, BadSteady(None), paper_spanned, thing, None)
        for thing in [None, True, 1, 41, "4", 4.0]:
            refused(self, BadNumber("most"), claim_made, DOUBLING, thing, None)
            refused(self, BadNumber("most"), claim_found, DOUBLING, thing, 9)
            refused(self, BadNumber("most"), paper_spanned, Steady(three_claim()), thing)
        for thing in [None, True, -1, 9, "1", 1.0]:
            refused(self, BadNumber("short"), claim_made, DOUBLING, 40, thing)
            refused(self, BadNumber("short"), claim_found, DOUBLING, 40, thing)

    def test_spans_and_lengths_at_the_edges(self):
        self.assertIsInstance(claim_made(THREE, 2, 0), Claim)
        self.assertIsInstance(claim_made(THREE, 40, 8), Claim)


class Papers(unittest.TestCase):

    def test_papers_of_other_claims(self):
        for claim in (three_claim(), s3_claim(), cyclic_claim(7)):
            steady = Steady(claim)
            longest = max(len(word) for word in loops(steady))
            told = [paper_spanned(steady=steady, most=most) for most in range(2, 15)]
            for most, paper in enumerate(told, 2):
                if paper is None:
                    system = spanned(claim.group, most)
                    self.assertTrue(most < longest or any(reduced(system, word) for word in loops(steady)))
                else:
                    self.assertGreaterEqual(most, longest)
                    self.assertTrue(is_paper(steady, paper))
                    self.assertIsInstance(paper, list)
            self.assertIsNotNone(told[-1])

    def test_loops_that_are_not_alike(self):
        self.assertIsNone(paper_spanned(Steady(line_claim()), 20))
        claim = three_claim()
        free = Claim(Group((1, 0), []), claim.words, claim.nears)
        self.assertIsNone(paper_spanned(Steady(free), 40))

    def test_too_many(self):
        claim = line_claim()
        back = claim.group.back
        # A group of many rules, with the same letters.
        group = Group(back, [((0, 0, 0, 1, 2, 1), (1, 2, 1, 1, 1, 2, 0))])
        most = next(span for span in range(2, 30) if rules_at(group, span) == 141)
        refused(self, TooMany(140), paper_spanned, Steady(Claim(group, claim.words, claim.nears)), most)


if __name__ == "__main__":
    unittest.main()
