"""Points [74] and [82]: roads mapped, claims kept through changes."""

import random
import unittest

from gatewords.alongs import along
from gatewords.changes import changed
from gatewords.claims import Claim, says
from gatewords.directclaims import claim_direct
from gatewords.errors import BadChange, BadJudged, BadMap, BadNumber, BadRoad, BadWord, NotLet
from gatewords.freeclaims import claim_free
from gatewords.groups import Group, is_road, step_done
from gatewords.judgeds import Judged
from gatewords.keeping import kept, kept_by
from gatewords.letters import undone
from gatewords.machines import Machine, takes
from gatewords.mappedroads import road_mapped
from gatewords.maps import Map, broken_map
from gatewords.normals import is_alike, normal
from gatewords.papers import is_paper, paper_near
from gatewords.roadmakers import road_between
from gatewords.rowmakers import just_rows
from gatewords.steadies import Steady
from tests.examples import (cyclic_claim, d4_claim, endless_claim, near_of, s3_claim, s4_claim, three_claim,
                            told_judged, two_claim, with_rules)
from tests.helpers import ODD_VALUES, language, paired, refused


def judgeds():
    return [told_judged(claim) for claim in [
        three_claim(), cyclic_claim(1), two_claim(), endless_claim(), s3_claim(), d4_claim(),
        claim_free(three_claim(), two_claim()), claim_direct(endless_claim(), three_claim()),
        claim_direct(endless_claim(), endless_claim())]]


def chance_word(chance, many, most):
    return tuple(chance.randrange(many) for _ in range(chance.randrange(most + 1)))


def chance_road(chance, group, one, most):
    """A road by chance from a word, and the word to which it leads."""
    swaps = [pair for rule in group.rules for pair in (rule, rule[::-1])] * 3
    swaps += [pair for k, b in enumerate(group.back) for pair in (((k, b), ()), ((), (k, b)))]
    road = []
    for _ in range(most):
        out, put = chance.choice(swaps)
        places = [k for k in range(len(one) - len(out) + 1) if one[k:k + len(out)] == out]
        if places:
            road.append((chance.choice(places), out, put))
            one = step_done(group, one, road[-1])
    return road, one


class Mapped(unittest.TestCase):

    def test_roads_go_along(self):
        chance = random.Random(3)
        six, four = told_judged(s3_claim()), told_judged(s4_claim())
        wide = told_judged(claim_direct(endless_claim(), three_claim()))
        cases = [(six, six.claim.group, [(0,), (1,)]), (six, six.claim.group, [(1,), (0,)]),
                 (four, six.claim.group, [(0,), (1,)]), (four, six.claim.group, [(0, 2), (1, 0, 1, 0, 1, 0, 1)]),
                 (four, Group((1, 0), [((0, 0, 0), ())]), [(0, 1), (1, 0)]), (wide, Group((1, 0, 3, 2), []), [(0, 2), (1, 3), (2,), (3,)]),
                 (wide, Group((1, 0), []), [(), ()]), (four, Group((0, 1), []), [(0,), (0, 1, 0)])]
        for judged, source, images in cases:
            one = Map(source, judged.steady, images)
            if broken_map(one) is not None:
                word = chance_word(chance, len(source.back), 3)
                refused(self, BadMap("images"), road_mapped, judged, one, word, None)
                continue
            for _ in range(25):
                word = chance_word(chance, len(source.back), 6)
                road, end = chance_road(chance, source, word, 12)
                found = road_mapped(judged=judged, one=one, word=word, road=road)
                ends = [sum([images[letter] for letter in side], ()) for side in (word, end)]
                self.assertIs(is_road(judged.claim.group, ends[0], ends[1], found), True)
                self.assertIsInstance(found, list)

    def test_long_words(self):
        judged = told_judged(endless_claim())
        one = Map(Group((1, 0), []), judged.steady, [(0,) * 40, (1,) * 40])
        word = (0, 1) * 100
        road = [(0, (0, 1), ())] * 100
        found = road_mapped(judged, one, word, tuple(road))
        images = ((0,) * 40 + (1,) * 40) * 100
        self.assertIs(is_road(judged.claim.group, images, (), found), True)
        # The road may go on to words of more than 200 letters.
        further = [(200, (), (0, 1))] * 3
        self.assertIs(is_road(judged.claim.group, images, images + ((0,) * 40 + (1,) * 40) * 3,
                              road_mapped(judged, one, word, further)), True)

    def test_errors(self):
        judged = told_judged(three_claim())
        one = Map(judged.claim.group, judged.steady, [(0,), (1,)])
        for thing in ODD_VALUES + [judged.steady]:
            refused(self, BadJudged(None), road_mapped, thing, None, None, None)
            refused(self, BadMap(None), road_mapped, judged, thing, None, None)
        other = Map(judged.claim.group, Steady(cyclic_claim(3)), [(0,), (0,)])
        refused(self, BadMap("target"), road_mapped, judged, other, None, None)
        refused(self, BadMap("images"), road_mapped, judged, Map(judged.claim.group, judged.steady, [(0,), (0,)]), None, None)
        for word in [None, [], (2,), (True,), (0,) * 201]:
            refused(self, BadWord("x"), road_mapped, judged, one, word, None)
        for road in [None, 0, [None], [(0, (0,), ())], [(1, (0, 0, 0), ())], [(0, (1, 1, 1), ())], [(False, (0, 0, 0), ())]]:
            refused(self, BadRoad("x"), road_mapped, judged, one, (0, 0, 0), road)
        self.assertEqual(road_mapped(judged, one, (0, 0, 0), []), [])


class Kept(unittest.TestCase):

    def assert_judged(self, judged, group):
        self.assertIsInstance(judged, Judged)
        self.assertEqual(judged.claim.group, group)
        self.assertEqual(Judged(judged.claim, judged.paper), judged)

    def test_put(self):
        chance = random.Random(5)
        for judged in judgeds():
            many = len(judged.claim.group.back)
            for _ in range(20):
                one, other = chance_word(chance, many, 5), chance_word(chance, many, 5)
                if chance.random() < 0.5:
                    other = (normal(judged.steady, one) + (0, judged.claim.group.back[0]))[:40]
                change = ("put", one, other)
                found = kept(judged=judged, change=change)
                self.assertEqual(found is not None, is_alike(judged.steady, one, other))
                if found is not None:
                    self.assert_judged(found, changed(judged.claim.group, change))
                    self.assertEqual(found.claim.words, judged.claim.words)
                    self.assertEqual(found.claim.nears, judged.claim.nears)
                    self.assertEqual(found.paper, judged.paper)

    def test_drop(self):
        base = with_rules(three_claim(), [((0, 0, 0), ()), ((1, 1, 1), ()), ((0, 0, 0), ()), ((0, 1), ())])
        by_first = [[(0, (0, 0, 0), ())]]
        judged = Judged(base, by_first)
        for place, wanted in [(0, True), (1, True), (2, True), (3, True)]:
            found = kept(judged, ("drop", place))
            self.assertEqual(found is not None, wanted)
            self.assert_judged(found, changed(base.group, ("drop", place)))
            self.assertEqual(found.paper, judged.paper)
        alone = Judged(with_rules(three_claim(), [((0, 0, 0), ()), ((1, 1, 1), ())]), by_first)
        self.assertIsNone(kept(alone, ("drop", 0)))
        self.assertIsNotNone(kept(alone, ("drop", 1)))
        # The rule may follow from what is left; the paper tells nothing of this.
        refused(self, NotLet("place"), kept, alone, ("drop", 2))

    def test_letter(self):
        chance = random.Random(8)
        for judged in judgeds():
            back = judged.claim.group.back
            many = len(back)
            for word in [(), (0,), (many - 1, 0, 0)] + [chance_word(chance, many, 12) for _ in range(3)]:
                change = ("letter", word)
                found = kept(judged, change)
                self.assert_judged(found, changed(judged.claim.group, change))
                self.check_machines(judged, found, word)
                self.assertEqual(kept(found, ("unletter",)).claim, judged.claim)
                again = kept(found, ("letter", (many, 0, many + 1)))
                if len(back) < 8:
                    self.assert_judged(again, changed(found.claim.group, ("letter", (many, 0, many + 1))))

    def check_machines(self, judged, found, word):
        back = judged.claim.group.back
        many = len(back)
        words = found.claim.words
        self.assertEqual([way[:many] for way in words.ways], [way for way in judged.claim.words.ways])
        self.assertTrue(all(way[many:] == (None, None) for way in words.ways))
        self.assertEqual(words.ends, judged.claim.words.ends)
        wanted = list(judged.claim.nears) + [along(judged.steady, word), along(judged.steady, undone(back, word))]
        names = list(range(many)) + [many + 2]
        for near, old in zip(found.claim.nears, wanted):
            self.assertEqual((len(near.ways), near.ends), (len(old.ways), old.ends))
            for way, before in zip(near.ways, old.ways):
                told = {names[x // (many + 1)] * (many + 3) + names[x % (many + 1)]: to
                        for x, to in enumerate(before) if to is not None}
                self.assertEqual({x: to for x, to in enumerate(way) if to is not None}, told)
        for one, other in paired(back, wanted[many + 1], 2):
            self.assertTrue(says(found.claim, many, one, other))
            self.assertTrue(says(found.claim, many + 1, other, one))

    def test_states_stay(self):
        # Machines that are not in their least form keep their states.
        claim = three_claim()
        near = claim.nears[1]
        ways = [list(way) for way in near.ways] + [[1] * 9]
        ways[0][0] = 0
        wide = Machine(9, [[None] + way[1:] for way in ways], near.ends)
        words = Machine(2, [(1, 1), (None, None), (0, 2)], [0, 1])
        judged = Judged(Claim(claim.group, words, [claim.nears[0], wide, claim.nears[2]]), [[(0, (0, 0, 0), ())]])
        found = kept(judged, ("letter", (0,)))
        self.assertEqual(len(found.claim.words.ways), 3)
        self.assertEqual(len(found.claim.nears[1].ways), 3)
        self.assertEqual(kept(found, ("unletter",)).claim, judged.claim)

    def test_unletter_of_ways_to_nowhere(self):
        # New letters lead to a state from which no word is taken, so they stand in no normal word.
        first = told_judged(three_claim())
        grown = kept(first, ("letter", (0, 0)))
        claim = grown.claim
        dead = len(claim.words.ways)
        words = Machine(4, [way[:2] + (dead, dead) for way in claim.words.ways] + [(dead,) * 4], claim.words.ends)
        near = claim.nears[1]
        far = len(near.ways)
        ways = [tuple(far if to is None and 2 in divmod(x, 5) else to for x, to in enumerate(way)) for way in near.ways]
        nears = [claim.nears[0], Machine(25, ways + [(None,) * 25], near.ends)] + list(claim.nears[2:])
        judged = Judged(Claim(claim.group, words, nears), grown.paper)
        found = kept(judged, ("unletter",))
        self.assert_judged(found, first.claim.group)
        self.assertEqual(found.claim.words.ways, tuple(first.claim.words.ways) + ((dead, dead),))
        self.assertEqual(found.claim.nears[1].ways, tuple(first.claim.nears[1].ways) + ((None,) * 9,))
        self.assertEqual(kept(judged, ("letter", ())).claim.words.ways[0], words.ways[0] + (None, None))

    def test_unletter(self):
        # A letter in some normal word is not to be lost.
        base = claim_direct(three_claim(), endless_claim())
        group = Group(base.group.back, list(base.group.rules) + [((2,), (0,))])
        self.assertEqual(changed(group, ("unletter",)).back, (1, 0))
        refused(self, BadJudged("rules"), Judged, Claim(group, base.words, base.nears), None)
        moves_group = Group((1, 0, 3, 2), [((2,), (0, 0)), ((0,) * 6, ())])
        first = told_judged(cyclic_claim(6))
        grown = kept(first, ("letter", (0, 0)))
        self.assertIsNotNone(kept(grown, ("unletter",)))
        # The same group with normal words of the last letters too.
        normals = [(), (0,), (2,), (2, 0), (2, 2), (2, 2, 0)]
        claim = by_numbers(moves_group, normals, [1, -1, 2, -2], 6)
        judged = Judged(claim, paper_near(Steady(claim), 6))
        self.assertIsNone(kept(judged, ("unletter",)))
        refused(self, NotLet("letters"), kept, first, ("unletter",))
        refused(self, NotLet("rule"), kept, told_judged(claim_direct(endless_claim(), endless_claim())), ("unletter",))
        # Other rules tell the letters too; they are changed along.
        more = Group((1, 0, 3, 2), [((2, 1), (0,)), ((2,), (0, 0)), ((2, 0), ()), ((0,) * 3, ()), ((3, 3), (1,))])
        claim = by_numbers(more, [(), (0,), (1,)], [1, -1, 2, -2], 3)
        judged = Judged(claim, paper_near(Steady(claim), 5))
        found = kept(judged, ("unletter",))
        self.assert_judged(found, changed(more, ("unletter",)))
        self.assertEqual(language(found.claim.words, 3), [(), (0,), (1,)])

    def test_errors(self):
        judged = told_judged(three_claim())
        for thing in ODD_VALUES + [judged.steady, judged.claim]:
            refused(self, BadJudged(None), kept, thing, None)
            refused(self, BadJudged(None), kept_by, thing, None, None)
        for thing in ODD_VALUES:
            refused(self, BadChange("x"), kept, judged, thing)
        refused(self, NotLet("word"), kept, judged, ("put", (2,), ()))
        full = judged
        while len(full.claim.group.rules) < 40:
            full = kept(full, ("put", (0, 1), ()))
        refused(self, NotLet("many"), kept, full, ("put", (), ()))
        refused(self, NotLet("many"), kept, full, ("letter", ()))
        wide = told_judged(cyclic_claim(1))
        for _ in range(5):
            wide = kept(wide, ("letter", ()))
        self.assertEqual(len(wide.claim.group.back), 12)
        refused(self, NotLet("letters"), kept, wide, ("letter", ()))
        self.assert_judged(kept(wide, ("put", (11,), (0,))), changed(wide.claim.group, ("put", (11,), (0,))))


def by_numbers(group, normals, steps, many):
    """The claim of so many elements, letters adding steps, by these normal words."""
    places = {sum(steps[letter] for letter in word) % many: word for word in normals}
    nears = [near_of(group.back, [(word, word) for word in normals])]
    for step in steps:
        nears.append(near_of(group.back, [(word, places[(k + step) % many]) for k, word in places.items()]))
    return Claim(group, just_rows(len(group.back), normals), nears)


class KeptBy(unittest.TestCase):

    def test_swapped(self):
        # (0, 0, 0) is (), so (0, 0) is (1,), and (1, 1, 1) is ().
        base = with_rules(three_claim(), [((0, 0), (1,)), ((0, 0, 0), ()), ((1, 1, 1), ())])
        paper = [[(0, (0, 0), (1,)), (0, (1, 0), ())]]
        judged = Judged(base, paper)
        road = [(2, (), (0, 1)), (0, (0, 0, 0), ())]
        found = kept_by(judged=judged, place=0, road=road)
        self.assertEqual(found.claim, with_rules(base, [((0, 0, 0), ()), ((1, 1, 1), ())]))
        self.assertEqual(found.paper, (((2, (), (0, 1)), (0, (0, 0, 0), ()), (0, (1, 0), ())),))
        self.assertTrue(is_paper(found.steady, found.paper))
        # A road that uses the rule the other way round.
        turned = Judged(base, [[(3, (), (0, 1)), (4, (1,), (0, 0)), (0, (0, 0, 0), ()), (0, (0, 0, 0), ())]])
        found = kept_by(turned, 0, tuple(road))
        self.assertEqual(found.paper[0], ((3, (), (0, 1)), (4, (), (0, 0, 0)), (6, (0, 1), ()), (0, (0, 0, 0), ()),
                                          (0, (0, 0, 0), ())))
        # What is no step of the rule stays.
        steps = [(0, (1,), (0, 0)), (1, (0, 1), ()), (0, (0, 1), ())]
        self.assertEqual(kept_by(judged, 2, steps).paper, judged.paper)

    def test_twice_there(self):
        base = with_rules(three_claim(), [((0, 0, 0), ()), ((0, 0, 0), ())])
        judged = Judged(base, [[(0, (0, 0, 0), ())]])
        found = kept_by(judged, 0, [(0, (0, 0, 0), ())])
        self.assertEqual(found.paper, judged.paper)
        self.assertEqual(len(found.claim.group.rules), 1)

    def test_refused(self):
        judged = Judged(with_rules(three_claim(), [((0, 0), (1,)), ((0, 0, 0), ())]),
                        [[(0, (0, 0), (1,)), (0, (1, 0), ())]])
        for place in [None, True, -1, 2, "0", 0.0]:
            refused(self, BadNumber("place"), kept_by, judged, place, None)
        for road in [None, [], [(0, (0, 0), (1,))], [(0, (1,), (0, 0))], [(2, (), (0, 1)), (0, (0, 0, 0), ()), (0, (), (0, 1))],
                     [(True, (), (0, 1))], 3, [None]]:
            refused(self, BadRoad("x"), kept_by, judged, 0, road)
        refused(self, BadNumber("place"), kept_by, told_judged(endless_claim()), 0, [])

    def test_endless(self):
        base = claim_direct(endless_claim(), endless_claim())
        rule = base.group.rules[0]
        judged = told_judged(base)
        more = kept(judged, ("put", rule[0], rule[1]))
        place = len(more.claim.group.rules) - 1
        road = [(0, (), (0, 1)), (0, (0, 1), ())] + road_between(judged, rule[0], rule[1])
        self.assertEqual(kept_by(more, place, road).claim, judged.claim)
        self.assertTrue(takes(more.claim.words, (0, 0, 2)))


if __name__ == "__main__":
    unittest.main()
