"""Points [44], [45], [47] (Judged) and [51]: groups told by machines alone, rules kept, Judged, roads."""

import itertools
import random
import unittest

from gatewords.claims import Claim
from gatewords.directclaims import claim_direct
from gatewords.errors import BadClaim, BadJudged, BadSteady, BadWord, NoGroup, TooMany
from gatewords.freeclaims import claim_free
from gatewords.groups import Group, is_road, near_words
from gatewords.judgeds import Judged
from gatewords.letters import undone
from gatewords.loops import loops
from gatewords.normals import is_alike, normal
from gatewords.papers import is_paper, paper_near
from gatewords.partings import parting_near
from gatewords.regular import is_moved, moved, told_group
from gatewords.roadmakers import road_between, road_home
from gatewords.rowmakers import just_rows, no_rows
from gatewords.ruleways import broken
from gatewords.steadies import Steady, led
from tests.examples import (D4_GENS, S4_GENS, THREE, acting_claim, cyclic_claim, d4_claim, endless_claim, far_claim,
                            line_claim, near_of, points_claim, regular_moves, s3_claim, s4_claim, three_claim,
                            told_judged, tree_words, two_claim, two_powers, with_rules)
from tests.helpers import ODD_VALUES, language, refused, rows


def telling():
    """Claims whose machines tell a group."""
    return [three_claim(), cyclic_claim(1), cyclic_claim(6), two_claim(), endless_claim(), s3_claim(), s4_claim(),
            d4_claim(), claim_free(three_claim(), two_claim()), claim_direct(endless_claim(), endless_claim()),
            claim_direct(claim_free(two_claim(), two_claim()), three_claim())]


def actions(back, points):
    """All ways in which letters of a back lead so many points to one another from point 0."""
    every = list(itertools.permutations(range(points)))
    for moves in itertools.product(every, repeat=len(back)):
        undoing = all(moves[back[k]][moves[k][p]] == p for k in range(len(back)) for p in range(points))
        if undoing and len(tree_words(back, moves)) == points:
            yield moves


def come_to(moves):
    """How many permutations come of some."""
    start = tuple(range(len(moves[0])))
    known = {start}
    waiting = [start]
    while waiting:
        one = waiting.pop()
        for move in moves:
            to = tuple(move[p] for p in one)
            if to not in known:
                known.add(to)
                waiting.append(to)
    return len(known)


def chance_word(chance, many, most):
    return tuple(chance.randrange(many) for _ in range(chance.randrange(most + 1)))


class Regular(unittest.TestCase):

    def test_exactly_if(self):
        # Letters lead all normal words as in a group if they come to as many permutations as there are words.
        tried = 0
        for back, points in [((1, 0), 3), ((1, 0), 4), ((0, 1), 3), ((0, 1), 4), ((1, 0, 2), 3), ((1, 0, 2), 4),
                             ((0, 1, 2), 2), ((1, 0, 3, 2), 3)]:
            for moves in actions(back, points):
                steady = Steady(acting_claim(back, moves, []))
                regular = come_to(moves) == points
                words = loops(steady)
                still = all(led(steady, a, word) == a for word in words for a in language(steady.claim.words, points))
                found = moved(steady=steady)
                self.assertEqual(found is None, regular)
                self.assertIs(still, regular)
                tried += 1
                if regular:
                    self.assertEqual(told_group(steady=steady), Group(back, [(word, ()) for word in words]))
                else:
                    self.assertIs(is_moved(steady=steady, thing=found), True)
                    refused(self, NoGroup("x"), told_group, steady)
        self.assertGreater(tried, 100)

    def test_of_other_words(self):
        # The normal words need not be the least ones.
        chance = random.Random(7)
        for gens, back in [([(1, 2, 3, 0), (3, 0, 1, 2)], (1, 0)), (D4_GENS, (1, 0, 2)), (S4_GENS, (0, 1, 2)),
                           ([(1, 2, 3, 4, 0), (4, 0, 1, 2, 3), (0, 4, 3, 2, 1)], (1, 0, 2))]:
            for acting in (gens, regular_moves(gens)):
                words = self.chance_tree(chance, back, acting)
                pairs = [[(word, words[acting[k][p]]) for p, word in words.items()] for k in range(len(back))]
                plain = acting_claim(back, acting, [])
                lot = near_of(back, [(word, word) for word in words.values()])
                steady = Steady(Claim(plain.group, rows_of(back, words), [lot] + [near_of(back, one) for one in pairs]))
                found = moved(steady)
                self.assertEqual(found is None, come_to(acting) == len(words))
                self.assertTrue(found is None or is_moved(steady, found))

    def chance_tree(self, chance, back, moves):
        words = {0: ()}
        while len(words) < len(moves[0]):
            point = chance.choice(list(words))
            letter = chance.randrange(len(back))
            words.setdefault(moves[letter][point], words[point] + (letter,))
        return words

    def test_endless(self):
        points, line = points_claim(), line_claim()
        for claim in [line, far_claim(1), far_claim(2), far_claim(5), claim_free(points, two_claim()),
                      claim_direct(points, endless_claim()), claim_free(three_claim(), far_claim(2)),
                      claim_direct(endless_claim(), points), claim_direct(line, line), claim_free(points, points)]:
            steady = Steady(claim)
            found = moved(steady)
            self.assertIs(is_moved(steady, found), True)
            self.assertEqual(led(steady, (), found[0]), ())
            self.assertNotEqual(led(steady, found[1], found[0]), found[1])
            refused(self, NoGroup("x"), told_group, steady)
        self.assertEqual(told_group(Steady(endless_claim())), Group((1, 0), []))
        self.assertEqual(told_group(Steady(claim_direct(endless_claim(), endless_claim()))).rules, (((0, 2, 1, 3), ()),))
        for claim in telling():
            self.assertIsNone(moved(Steady(claim)))

    def test_moved_judged(self):
        steady = Steady(points_claim())
        every = language(steady.claim.words, 3)
        for word in rows(2, 5):
            for a in every:
                wanted = led(steady, (), word) == () and led(steady, a, word) != a
                self.assertIs(is_moved(steady, (word, a)), wanted)
        right = ((1,), (0,))
        self.assertIs(is_moved(steady, right), True)
        self.assertIs(is_moved(steady, ((1,) * 301, (0,))), True)
        for thing in ODD_VALUES + [[(1,), (0,)], ((1,), [0]), ([1], (0,)), ((1,), (0,), ()), ((1,),), ((True,), (0,)),
                                   ((1,), (False,)), ((1,), (2,)), ((2,), (0,)), ((1,), (1, 1)), ((1,), ()), ((0,), (0,)),
                                   ((1, 1), (0,)), (None, (0,)), ((1,), None)]:
            self.assertIs(is_moved(steady, thing), False, repr(thing))

    def test_told_group(self):
        for claim in telling():
            steady = Steady(claim)
            group = told_group(steady)
            judged = told_judged(claim)
            self.assertEqual(judged.claim.group, group)
            # Alike by steps of the group: of short words, all that steps lead to.
            for word in near_words(group, (), 4):
                self.assertEqual(normal(steady, word), ())
        three = told_group(Steady(with_rules(three_claim(), [])))
        self.assertEqual(three, THREE)

    def test_40_loops(self):
        back, moves = two_powers(7, [(5, 6), (4, 5)])
        steady = Steady(acting_claim(back, moves, []))
        self.assertEqual(len(loops(steady)), 40)
        self.assertEqual(len(told_group(steady).rules), 40)
        back, moves = two_powers(7, [(5, 6), (4, 5), ()])
        steady = Steady(acting_claim(back, moves, []))
        self.assertEqual(len(loops(steady)), 41)
        refused(self, TooMany(40), told_group, steady)

    def test_loops_of_40_letters(self):
        self.assertEqual(told_group(Steady(cyclic_claim(40))), Group((1, 0), [((0,) * 40, ())]))
        many = with_rules(cyclic_claim(40), [])
        self.assertEqual(told_group(Steady(many)).rules, (((0,) * 40, ()),))
        normals = [(0,) * k for k in range(41)]
        pairs = [(normals[k], normals[(k + 1) % 41]) for k in range(41)]
        long = Claim(Group((1, 0), []), rows_of((1, 0), dict(enumerate(normals))),
                     [near_of((1, 0), one) for one in ([(a, a) for a in normals], pairs, [(b, a) for a, b in pairs])])
        refused(self, TooMany(40), told_group, Steady(long))
        self.assertIsNone(moved(Steady(long)))

    def test_errors(self):
        for thing in ODD_VALUES + [three_claim()]:
            refused(self, BadSteady(None), is_moved, thing, None)
            refused(self, BadSteady(None), moved, thing)
            refused(self, BadSteady(None), told_group, thing)
            refused(self, BadSteady(None), broken, thing)


def rows_of(back, words):
    """The machine of the words of some points."""
    return just_rows(len(back), list(words.values()))


class Broken(unittest.TestCase):

    def test_by_words(self):
        chance = random.Random(4)
        for claim in telling() + [points_claim(), line_claim(), far_claim(2)]:
            many = len(claim.group.back)
            self.assertIsNone(broken(Steady(claim)) if claim.group.rules else None)
            for _ in range(12):
                rules = [(chance_word(chance, many, 4), chance_word(chance, many, 4)) for _ in range(3)]
                rules = list(claim.group.rules) + rules[:chance.randrange(4)]
                steady = Steady(with_rules(claim, rules))
                starts = language(claim.words, 5 if many < 4 else 4)
                found = broken(steady=steady)
                for place, (one, other) in enumerate(rules):
                    apart = [a for a in starts if led(steady, a, one) != led(steady, a, other)]
                    if apart:
                        self.assertEqual(found, (place, apart[0]))
                        break
                else:
                    self.assertIsNone(found)

    def test_some(self):
        claim = three_claim()
        self.assertIsNone(broken(Steady(claim)))
        self.assertEqual(broken(Steady(with_rules(claim, [((0, 0, 0), ()), ((0,), (1,)), ((0,), ())]))), (1, ()))
        self.assertIsNone(broken(Steady(with_rules(claim, [((0,) * 40, (0,)), ((1,) * 40, (0, 0))]))))
        # A rule that holds at () and not further on.
        self.assertEqual(broken(Steady(with_rules(points_claim(), [((1,), ())]))), (0, (0,)))
        self.assertEqual(broken(Steady(with_rules(far_claim(5), [((), ()), ((2,), ())]))), (1, (0,) * 5))

    def test_long_rules(self):
        # Of machines that tell a group () alone is to be asked, and of others it is not.
        plane = claim_direct(endless_claim(), endless_claim())
        space = claim_direct(plane, endless_claim())
        sides = ((0, 2, 4) * 13, (4, 2, 0) * 13)
        self.assertIsNone(broken(Steady(with_rules(space, [sides]))))
        self.assertEqual(broken(Steady(with_rules(space, [sides, ((0, 2, 4) * 13, (4, 2, 0) * 12)]))), (1, ()))
        near = far_claim(3)
        back = (0,) * 15 + (2,) + (1,) * 15
        self.assertEqual(broken(Steady(with_rules(near, [((0, 1) * 20, ()), (back, ())]))), (1, (1,) * 11))
        self.assertEqual(broken(Steady(with_rules(near, [((1,) * 19 + (2,) + (0,) * 19, ())]))), (0, (0,) * 22))


class Judgeds(unittest.TestCase):

    def test_made(self):
        paper = [[(0, (0, 0, 0), ())]]
        judged = Judged(claim=three_claim(), paper=paper)
        paper.append(1)
        paper[0].append(2)
        self.assertEqual(judged.claim, three_claim())
        self.assertEqual(judged.paper, (((0, (0, 0, 0), ()),),))
        self.assertEqual(judged.steady, Steady(three_claim()))
        self.assertIsInstance(judged.paper, tuple)
        self.assertIsInstance(judged.paper[0], tuple)
        self.assertEqual(judged, Judged(three_claim(), [((0, (0, 0, 0), ()),)]))
        longer = [[(3, (), (1, 0)), (0, (0, 0, 0), ()), (0, (1, 0), ())]]
        self.assertNotEqual(judged, Judged(three_claim(), longer))
        self.assertFalse(judged == judged.steady or judged.steady == judged or judged == None)  # noqa: E711

    def test_refused(self):
        claim = three_claim()
        paper = [[(0, (0, 0, 0), ())]]
        for thing in ODD_VALUES + [Steady(claim), THREE]:
            refused(self, BadClaim(None), Judged, thing, paper)
        empty = Claim(THREE, no_rows(2), claim.nears)
        refused(self, BadSteady(("empty",)), Judged, empty, None)
        refused(self, BadJudged("rules"), Judged, with_rules(claim, [((0,), ())]), None)
        refused(self, BadJudged("rules"), Judged, with_rules(claim, [((0, 0, 0), ()), ((0, 0), (0,))]), paper)
        for thing in ODD_VALUES + [[[(0, (0, 0), ())]], [], [paper[0], paper[0]], [[]], [[(True, (0, 0, 0), ())]]]:
            refused(self, BadJudged("paper"), Judged, claim, thing)
        # Without the rule there is no paper at all.
        loose = with_rules(claim, [])
        refused(self, BadJudged("paper"), Judged, loose, paper)
        self.assertEqual(paper_near(Steady(loose), 5), [None])
        self.assertIsNotNone(parting_near(Steady(loose), 2))

    def test_holds_exactly_if(self):
        # Of the machines of six elements and all sets of a few rules: it holds just if the rules make
        # six elements, which steps within some length show, or a parting shows that they do not.
        every = [((0, 1, 0), (1, 0, 1)), ((0, 1, 0, 1), (1, 0)), ((0, 1), (1, 0)), ((0, 1) * 6, ()), ((0, 1) * 9, (0, 1) * 6),
                 ((0,), (1, 0, 1, 0, 1))]
        machines = s3_claim()
        held = 0
        for size in range(4):
            for rules in itertools.combinations(every, size):
                steady = Steady(with_rules(machines, rules))
                if broken(steady) is not None:
                    refused(self, BadJudged("rules"), Judged, steady.claim, None)
                    self.assertIn(((0, 1), (1, 0)), rules)
                    continue
                partings = [parting_near(steady, points) for points in range(1, 6)]
                try:
                    roads = paper_near(steady, 8)
                except TooMany:
                    roads = [None]
                if None not in roads:
                    held += 1
                    self.assertTrue(is_paper(steady, Judged(steady.claim, roads).paper))
                    self.assertEqual(partings, [None] * 5)
                elif partings == [None] * 5:
                    self.assertLessEqual(set(rules), {every[3], every[4]})
        self.assertGreater(held, 5)

    def test_unlike_claims_of_one_group(self):
        # Six elements by their least words, by powers, and as a product.
        powers = told_judged(cyclic_claim(6))
        moves = [[(k + 1) % 6 for k in range(6)], [(k - 1) % 6 for k in range(6)]]
        least = acting_claim((1, 0), moves, powers.claim.group.rules)
        other = Judged(least, paper_near(Steady(least), 8))
        self.assertEqual(other.claim.group, powers.claim.group)
        self.assertNotEqual(other, powers)
        for one, two in itertools.product(rows(2, 4), repeat=2):
            self.assertIs(is_alike(powers.steady, one, two), is_alike(other.steady, one, two))


class Roads(unittest.TestCase):

    def test_home(self):
        chance = random.Random(1)
        for claim in telling():
            judged = told_judged(claim)
            group = judged.claim.group
            many = len(group.back)
            for size in [0, 1, 2, 3, 5, 8, 20, 60]:
                word = tuple(chance.randrange(many) for _ in range(size))
                road = road_home(judged=judged, word=word)
                self.assertIsInstance(road, list)
                self.assertIs(is_road(group, word, normal(judged.steady, word), road), True)

    def test_of_longer_papers(self):
        # The rules are not the loops, so that roads of the paper have several steps.
        chance = random.Random(2)
        for claim, most in [(s3_claim(), 8), (d4_claim(), 7), (cyclic_claim(5), 7),
                            (with_rules(cyclic_claim(4), [((0, 0), (1, 1))]), 6)]:
            judged = Judged(claim, paper_near(Steady(claim), most))
            for word in rows(len(claim.group.back), 3) + [chance_word(chance, len(claim.group.back), 200)]:
                end = normal(judged.steady, word)
                self.assertIs(is_road(claim.group, word, end, road_home(judged, word)), True)
                back = undone(claim.group.back, word)
                self.assertIs(is_road(claim.group, back, normal(judged.steady, back), road_home(judged, back)), True)

    def test_between_exactly_if(self):
        for claim in [three_claim(), two_claim(), s3_claim()]:
            judged = told_judged(claim)
            for one, other in itertools.product(rows(2, 3), repeat=2):
                road = road_between(judged=judged, one=one, other=other)
                alike = is_alike(judged.steady, one, other)
                self.assertEqual(road is not None, alike)
                if alike:
                    self.assertIs(is_road(judged.claim.group, one, other, road), True)
        endless = told_judged(claim_direct(endless_claim(), endless_claim()))
        self.assertIsNone(road_between(endless, (0, 2), (2,)))
        one, other = (0, 2) * 10, (2,) * 10 + (0,) * 10
        self.assertIs(is_road(endless.claim.group, one, other, road_between(endless, one, other)), True)

    def test_200_letters(self):
        judged = told_judged(s4_claim())
        word = (0, 1, 2, 1) * 50
        self.assertIs(is_road(judged.claim.group, word, normal(judged.steady, word), road_home(judged, word)), True)
        for wrong in [None, [], (3,), (True,), "0", (0,) * 201]:
            refused(self, BadWord("x"), road_home, judged, wrong)
            refused(self, BadWord("x"), road_between, judged, wrong, ())
            refused(self, BadWord("x"), road_between, judged, (), wrong)
        for thing in ODD_VALUES + [judged.steady, judged.claim]:
            refused(self, BadJudged(None), road_home, thing, None)
            refused(self, BadJudged(None), road_between, thing, None, None)


if __name__ == "__main__":
    unittest.main()
