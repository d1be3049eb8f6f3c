"""Points [46], [47] (partings) and [81]: papers, partings, roads carried along."""

import itertools
import random
import unittest

from gatewords.carrying import carried_road
from gatewords.changes import changed, changed_word
from gatewords.claims import Claim
from gatewords.directclaims import claim_direct
from gatewords.errors import (BadChange, BadGroup, BadNumber, BadPaper, BadRoad, BadSteady, BadWord, NotLet, TooMany)
from gatewords.groups import Group, is_road, step_done
from gatewords.letters import undone
from gatewords.loops import loops, ring
from gatewords.papers import is_paper, loop_road, paper_near
from gatewords.partings import is_parting, parting_near
from gatewords.rowmakers import just_rows
from gatewords.steadies import Steady
from tests.examples import (acting_claim, cyclic_claim, d4_claim, endless_claim, line_claim, near_of, points_claim,
                            s3_claim, three_claim, two_claim)
from tests.helpers import ODD_VALUES, refused


def with_rules(claim, rules):
    return Claim(Group(claim.group.back, rules), claim.words, claim.nears)


def plain_distance(group, word, most):
    """The steps of a shortest road to () over words of at most most letters, and words of fewer steps."""
    if len(word) > most:
        return None, 1
    swaps = [pair for rule in group.rules for pair in (rule, rule[::-1])]
    swaps += [pair for k, b in enumerate(group.back) for pair in (((k, b), ()), ((), (k, b)))]
    known = {word}
    level = [word]
    steps = 0
    while level:
        if () in known:
            return steps, fewer
        fewer = len(known)
        further = set()
        for one in level:
            for out, put in swaps:
                for at in range(len(one) - len(out) + 1):
                    if one[at:at + len(out)] == out:
                        further.add(one[:at] + put + one[at + len(out):])
        level = [one for one in further - known if len(one) <= most]
        known.update(level)
        steps += 1
    return None, len(known)


class Papers(unittest.TestCase):

    def test_of_the_document(self):
        steady = Steady(three_claim())
        paper = [[(0, (0, 0, 0), ())]]
        self.assertIs(is_paper(steady=steady, thing=paper), True)
        self.assertEqual(paper_near(steady=steady, most=3), paper)

    def test_judged(self):
        steady = Steady(three_claim())
        right = [[[(0, (0, 0, 0), ())]], ([(0, (0, 0, 0), ())],), [((0, (0, 0, 0), ()),)],
                 [[(3, (), (1, 0)), (0, (0, 0, 0), ()), (0, (1, 0), ())]]]
        wrong = [[], [[]], [[(0, (0, 0, 0), ())], []], [[(0, (0, 0, 0), ())], [(0, (0, 0, 0), ())]],
                 [[(0, [0, 0, 0], ())]], [[(False, (0, 0, 0), ())]], [[[0, (0, 0, 0), ()]]],
                 [[(1, (0, 0, 0), ())]], [[(0, (0, 0, 0), ()), (0, (), (0, 1))]], [None], (None,), [[None]]]
        for thing in right:
            self.assertIs(is_paper(steady, thing), True)
        for thing in ODD_VALUES + wrong:
            self.assertIs(is_paper(steady, thing), False, repr(thing))
        # Without loops the empty list is the one paper.
        free = Steady(endless_claim())
        self.assertIs(is_paper(free, []), True)
        self.assertIs(is_paper(free, ()), True)
        self.assertIs(is_paper(free, [[]]), False)
        self.assertEqual(paper_near(free, 0), [])

    def test_shortest(self):
        cases = [(three_claim(), range(0, 7)), (with_rules(three_claim(), [((0, 0), (1,))]), range(0, 7)),
                 (with_rules(three_claim(), []), range(0, 6)), (s3_claim(), range(0, 8)),
                 (cyclic_claim(5), range(0, 6)), (with_rules(cyclic_claim(4), [((0, 0), (1, 1))]), range(0, 6)),
                 (two_claim(), range(0, 4)), (points_claim(), range(0, 7)),
                 (claim_direct(three_claim(), two_claim()), range(0, 4)),
                 (with_rules(points_claim(), [((0,), (1,)), ((1, 0, 1), ())]), range(0, 6))]
        for claim, mosts in cases:
            steady = Steady(claim)
            for most in mosts:
                wanted = [plain_distance(claim.group, word, most) for word in loops(steady)]
                if any(fewer > 3000 for _, fewer in wanted):
                    refused(self, TooMany(3000), paper_near, steady, most)
                    continue
                roads = paper_near(steady, most)
                self.assertEqual([road and len(road) for road in roads], [steps for steps, _ in wanted])
                for word, road in zip(loops(steady), roads):
                    if road is not None:
                        self.assert_short(claim.group, word, road, most)

    def assert_short(self, group, word, road, most):
        self.assertTrue(is_road(group, word, (), road))
        for step in road:
            self.assertLessEqual(len(word), most)
            word = step_done(group, word, step)

    def test_spans(self):
        steady = Steady(three_claim())
        self.assertEqual(paper_near(steady, 0), [None])
        self.assertEqual(paper_near(steady, 2), [None])
        self.assertEqual(paper_near(steady, 40), [[(0, (0, 0, 0), ())]])
        for most in [-1, 41, True, None, "3", 3.0]:
            refused(self, BadNumber("most"), paper_near, steady, most)
        for thing in ODD_VALUES:
            refused(self, BadSteady(None), is_paper, thing, None)
            refused(self, BadSteady(None), paper_near, thing, None)
            refused(self, BadSteady(None), loop_road, thing, None, None)

    def test_3000_words(self):
        # Each letter that undoes itself alone gives (k, k); the words met are those of a tree to be counted.
        # Rules that change one letter at a time: of a loop of m letters 2 ** m words are met.
        met = []
        for size in range(2, 14):
            moves = [[(k + 1) % size for k in range(size)], [(k - 1) % size for k in range(size)]]
            claim = acting_claim((1, 0), moves, [((0,), (1,))])
            steady = Steady(claim)
            self.assertEqual(loops(steady), [(0,) * size])
            steps, fewer = plain_distance(claim.group, (0,) * size, size)
            met.append(fewer)
            if fewer > 3000:
                refused(self, TooMany(3000), paper_near, steady, size)
            else:
                road = paper_near(steady, size)[0]
                self.assertEqual(road if steps is None else len(road), steps)
        self.assertTrue(min(met) < 3000 < max(met))

    def test_just_3000_words(self):
        # 2999 words are met by fewer than 16 steps, and so many more beside them.
        for further, many in [(0, 2999), (1, 3000), (2, 3001), (3, 3002)]:
            claim = self.wide_claim(further)
            steady = Steady(claim)
            told = [plain_distance(claim.group, word, 5) for word in loops(steady)]
            self.assertEqual(told[-1], (16, many))
            self.assertTrue(all(steps == 1 for steps, _ in told[:-1]))
            if many > 3000:
                refused(self, TooMany(3000), paper_near, steady, 5)
            else:
                self.assertEqual([len(road) for road in paper_near(steady, 5)], [1] * 4 + [16])
        # Where no road leads to () all words count.
        for many in (3000, 3001):
            claim = self.wide_claim(many - 2999, far=True)
            steady = Steady(claim)
            self.assertEqual(plain_distance(claim.group, loops(steady)[-1], 5)[0], None)
            refused(self, TooMany(3000), paper_near, steady, 5)

    def wide_claim(self, further, far=False):
        """Five elements by five letters that lead alike, and rules that lead from one to the next."""
        back = (1, 0, 3, 2, 5, 4, 7, 6, 9, 8)
        normals = [(0,) * k for k in range(5)]
        led = [(normals[k], normals[(k + 1) % 5]) for k in range(5)]
        put = near_of(back, led)
        taken = near_of(back, [(b, a) for a, b in led])
        rules = [((k,), (k + 2,)) for k in (0, 2, 4, 6)] + [((0, k), ()) for k in (3, 5, 7, 9)]
        rules += [((0,) * 5, word) for word in list(itertools.product((1, 3), repeat=5))[:further]]
        if not far:
            rules.append(((8, 8, 8, 6, 0), ()))
        return Claim(Group(back, rules), just_rows(10, normals), [near_of(back, [(a, a) for a in normals])]
                     + [put, taken] * 5)

    def test_loop_roads(self):
        chance = random.Random(2)
        for claim in [three_claim(), s3_claim(), d4_claim(), cyclic_claim(4), claim_direct(three_claim(), two_claim())]:
            steady = Steady(claim)
            back = claim.group.back
            paper = paper_near(steady, 7)
            self.assertTrue(is_paper(steady, paper))
            for loop in loops(steady) + [()]:
                for k in range(max(1, len(loop))):
                    for core in (loop[k:] + loop[:k], undone(back, loop[k:] + loop[:k])):
                        word = core
                        for _ in range(chance.randrange(4)):
                            letter = chance.randrange(len(back))
                            word = (letter,) + word + (back[letter],)
                            at = chance.randrange(len(word))
                            word = word[:at] + (letter, back[letter]) + word[at:]
                        road = loop_road(steady=steady, paper=paper, word=word)
                        self.assertTrue(is_road(claim.group, word, (), road))
                        self.assertIsInstance(road, list)

    def test_loop_road_errors(self):
        steady = Steady(three_claim())
        paper = paper_near(steady, 3)
        for thing in [None, [], [[]], [None], True]:
            refused(self, BadPaper("x"), loop_road, steady, thing, None)
        for word in [None, [], [0, 0, 0], (0,), (0, 0), (0,) * 6, (2,), (False, False, False), "0"]:
            refused(self, BadWord("x"), loop_road, steady, paper, word)
        self.assertEqual(ring((1, 0), (1, 0, 0, 0, 0)), (0, 0, 0))
        long = (1,) * 300 + (0,) * 303
        self.assertTrue(is_road(three_claim().group, long, (), loop_road(steady, tuple(paper), long)))
        self.assertEqual(loop_road(steady, paper, ()), [])
        self.assertEqual(paper, [[(0, (0, 0, 0), ())]])


class Partings(unittest.TestCase):

    def test_of_the_document(self):
        steady = Steady(with_rules(three_claim(), []))
        self.assertIs(is_parting(steady=steady, thing=(0, [(1, 0), (1, 0)])), True)
        self.assertIs(is_parting(steady, parting_near(steady=steady, points=2)), True)
        self.assertIs(is_parting(Steady(three_claim()), (0, [(1, 0), (1, 0)])), False)

    def test_judged(self):
        steady = Steady(with_rules(three_claim(), []))
        turn = tuple(range(1, 12)) + (0,)
        turned = (11,) + tuple(range(11))
        right = [(0, [(1, 0), (1, 0)]), (0, ((1, 0), (1, 0))), (0, [turn, turned]),
                 (0, [(1, 2, 3, 0), (3, 0, 1, 2)])]
        far = tuple(range(1, 13)) + (0,)
        wrong = [(0, [(0,), (0,)]), (0, [(1, 2, 0), (2, 0, 1)]), (0, [(1, 2, 3, 0), (1, 2, 3, 0)]),
                 (1, [(1, 0), (1, 0)]), (-1, [(1, 0), (1, 0)]), (False, [(1, 0), (1, 0)]), [0, [(1, 0), (1, 0)]],
                 (0, [(1, 0)]), (0, [(1, 0)] * 3), (0, [[1, 0], [1, 0]]), (0, [(1, 0), [1, 0]]), (0, [(), ()]),
                 (0, [(True, 0), (1, 0)]), (0, [(1, 0), (1, False)]), (0, [(1, 1), (1, 0)]), (0, [(1, 0), (1, 0, 2)]),
                 (0, [far, (12,) + tuple(range(12))]), (0, [(1, 2), (0, 1)]), (0, None), (0,), (0, [(1, 0), (1, 0)], 0),
                 (None, [(1, 0), (1, 0)]), (0, "ab"), (0, [None, None]), (0, [(1, 0), None])]
        for thing in right:
            self.assertIs(is_parting(steady, thing), True, repr(thing))
        for thing in ODD_VALUES + wrong:
            self.assertIs(is_parting(steady, thing), False, repr(thing))

    def plain(self, steady, points):
        """All partings over so many points."""
        found = []
        every = list(itertools.permutations(range(points)))
        words = loops(steady)
        group = steady.claim.group
        for moves in itertools.product(every, repeat=len(group.back)):
            def end(word, point):
                for letter in word:
                    point = moves[letter][point]
                return point
            keeps = all(moves[group.back[k]][moves[k][p]] == p for k in range(len(moves)) for p in range(points))
            keeps = keeps and all(end(a, p) == end(b, p) for a, b in group.rules for p in range(points))
            for place, word in enumerate(words):
                if keeps and any(end(word, p) != p for p in range(points)):
                    found.append((place, list(moves)))
        return found

    def test_found_exactly_if(self):
        for claim in [three_claim(), with_rules(three_claim(), []), with_rules(three_claim(), [((0,) * 6, ())]),
                      s3_claim(), with_rules(s3_claim(), []), with_rules(s3_claim(), [((0, 1), (1, 0))]),
                      points_claim(), line_claim(), line_claim([((2,), ())]), with_rules(cyclic_claim(4), [((0,) * 6, ())]),
                      two_claim(), with_rules(two_claim(), []), endless_claim()]:
            steady = Steady(claim)
            for points in range(1, 4 if len(claim.group.back) > 2 else 5):
                found = parting_near(steady, points)
                every = self.plain(steady, points)
                self.assertEqual(found is None, not every)
                for one in every:
                    self.assertIs(is_parting(steady, one), True)
                if found is not None:
                    self.assertIs(is_parting(steady, found), True)
                    self.assertEqual(len(found[1][0]), points)

    def test_points(self):
        steady = Steady(with_rules(three_claim(), []))
        self.assertIsNone(parting_near(steady, 1))
        found = parting_near(steady, 5)
        self.assertIs(is_parting(steady, found), True)
        self.assertEqual(len(found[1][0]), 5)
        for points in [0, 6, True, None, "1", 2.0]:
            refused(self, BadNumber("points"), parting_near, steady, points)
        for thing in ODD_VALUES:
            refused(self, BadSteady(None), is_parting, thing, None)
            refused(self, BadSteady(None), parting_near, thing, None)

    def test_20000_lists(self):
        def still(back):
            return Steady(acting_claim(back, [[0]] * len(back), [((k,), ()) for k in range(len(back))]))

        # Two pairs of letters: 120 * 120; a pair and a letter that undoes itself: 120 * 26 and so on.
        for back, points, many in [((1, 0, 3, 2), 5, 14400), ((1, 0, 3, 2, 4), 5, 14400 * 26), ((0, 1, 2), 5, 17576),
                                   ((0, 1, 2, 3), 5, 26 ** 4), ((1, 0, 3, 2, 5, 4), 4, 13824),
                                   ((1, 0, 3, 2, 5, 4, 6), 4, 138240), ((0, 1, 2, 3), 4, 10000), ((1, 0, 2, 3, 4), 4, 24000),
                                   (tuple(range(7)), 3, 4 ** 7), (tuple(range(8)), 3, 4 ** 8)]:
            if many > 20000:
                refused(self, TooMany(20000), parting_near, still(back), points)
            else:
                self.assertIsNone(parting_near(still(back), points))
        self.assertIsNone(parting_near(still(tuple(range(12))), 2))
        self.assertIsNone(parting_near(still(tuple(range(12))), 1))


class Carried(unittest.TestCase):

    def roads(self, group, chance, most):
        """A road by chance from a word by chance."""
        many = len(group.back)
        swaps = [pair for rule in group.rules for pair in (rule, rule[::-1])] * 3
        swaps += [pair for k, b in enumerate(group.back) for pair in (((k, b), ()), ((), (k, b)))]
        one = word = tuple(chance.randrange(many) for _ in range(chance.randrange(6)))
        road = []
        for _ in range(chance.randrange(most)):
            out, put = chance.choice(swaps)
            places = [k for k in range(len(word) - len(out) + 1) if word[k:k + len(out)] == out]
            if places:
                step = (chance.choice(places), out, put)
                road.append(step)
                word = step_done(group, word, step)
        return one, road, word

    def test_roads_go_along(self):
        chance = random.Random(6)
        groups = [Group((1, 0, 3, 2), [((0, 0, 0), ()), ((2,), (0, 0)), ((2, 3), (3, 2)), ((0,), (2, 2))]),
                  Group((1, 0, 3, 2), [((2,), ()), ((2, 0), (0, 2))]),
                  Group((0, 1, 3, 2), [((2,), (0, 1)), ((2,), (0, 1)), ((2,), (1,)), ((0, 1), (2,))]),
                  Group((1, 0, 3, 2), [((2,), (2, 0)), ((2,), (1,)), ((), ())])]
        for group in groups:
            changes = [("put", (0,), (1,)), ("letter", (0, 1, 0)), ("unletter",)]
            for change in changes:
                for _ in range(60):
                    one, road, end = self.roads(group, chance, 25)
                    found = carried_road(group=group, change=change, one=one, road=road)
                    start = changed_word(group, change, one)
                    goal = changed_word(group, change, end)
                    self.assertIs(is_road(changed(group, change), start, goal, found), True)
                    self.assertIsInstance(found, list)

    def test_drop(self):
        group = Group((1, 0), [((0, 0, 0), ()), ((0, 0), (1,)), ((0, 0, 0), ())])
        with_first = [(0, (0, 0, 0), ())]
        self.assertEqual(carried_road(group, ("drop", 0), (0, 0, 0), with_first), with_first)
        self.assertEqual(carried_road(group, ("drop", 1), (0, 0, 0), with_first), with_first)
        refused(self, BadRoad("x"), carried_road, group, ("drop", 1), (0, 0), [(0, (0, 0), (1,))])
        refused(self, BadRoad("x"), carried_road, group, ("drop", 1), (1,), [(0, (1,), (0, 0))])
        self.assertEqual(carried_road(group, ("drop", 1), (1, 0), [(0, (1, 0), ())]), [(0, (1, 0), ())])
        # A rule that is a pair of neighbours that undo one another is a step all the same.
        paired = Group((1, 0), [((0, 1), ())])
        self.assertEqual(carried_road(paired, ("drop", 0), (0, 1), [(0, (0, 1), ())]), [(0, (0, 1), ())])

    def test_new_and_long(self):
        group = Group((1, 0), [((0, 0, 0), ())])
        road = ((0, (0, 0, 0), ()),) * 100
        found = carried_road(group, ("put", (), ()), (0,) * 300, road)
        self.assertEqual(found, list(road))
        given = [(0, (0, 0, 0), ())]
        carried_road(group, ("put", (), ()), (0, 0, 0), given).clear()
        self.assertEqual(given, [(0, (0, 0, 0), ())])

    def test_errors(self):
        group = Group((1, 0), [((0, 0, 0), ())])
        for thing in ODD_VALUES:
            refused(self, BadGroup(None), carried_road, thing, None, None, None)
            refused(self, BadChange("x"), carried_road, group, thing, None, None)
        refused(self, NotLet("place"), carried_road, group, ("drop", 1), None, None)
        refused(self, NotLet("letters"), carried_road, group, ("unletter",), None, None)
        refused(self, NotLet("word"), carried_road, group, ("put", (2,), ()), None, None)
        for word in [None, [], (2,), (True,), "0"]:
            refused(self, BadWord("x"), carried_road, group, ("drop", 0), word, None)
        for road in [None, 0, "a", [None], [(0, (0,), ())], [(0, (1, 1, 1), ())], [(1, (0, 0, 0), ())], [[0, (0, 0, 0), ()]],
                     [(False, (0, 0, 0), ())], {}]:
            refused(self, BadRoad("x"), carried_road, group, ("put", (), ()), (0, 0, 0), road)
        # The road must be one of the group as it was, not of the changed one.
        refused(self, BadRoad("x"), carried_road, group, ("put", (0,), ()), (0,), [(0, (0,), ())])


if __name__ == "__main__":
    unittest.main()
