"""Points [52] and [53]: how short normal words are, and their distances."""

import itertools
import random
import unittest

from gatewords.claims import Claim
from gatewords.directclaims import claim_direct
from gatewords.distances import ball, distance, order_of, shortest_words
from gatewords.errors import BadNumber, BadSteady, BadWord, TooMany
from gatewords.freeclaims import claim_free
from gatewords.groups import Group
from gatewords.normals import normal
from gatewords.rowmakers import just_rows
from gatewords.shortness import gains, is_least, is_shortest, later_at, longer_at
from gatewords.steadies import Steady, led
from tests.examples import (D4_GENS, S4_GENS, cyclic_claim, d4_claim, digits_claim, endless_claim, far_claim,
                            line_claim, near_of, points_claim, regular_moves, s3_claim, s4_claim, three_claim, two_claim)
from tests.helpers import ODD_VALUES, language, refused


def order(word):
    return (len(word), word)


def tree_claim(back, moves, words):
    """The claim of these words of points, whichever lead to them."""
    pairs = [[(word, words[moves[k][p]]) for p, word in words.items()] for k in range(len(back))]
    same = near_of(back, [(word, word) for word in words.values()])
    return Claim(Group(back, []), just_rows(len(back), list(words.values())),
                 [same] + [near_of(back, one) for one in pairs])


def chance_claims():
    """Claims of normal words that are not short, of groups and others."""
    chance = random.Random(11)
    found = []
    for back, gens in [((1, 0), [(1, 2, 3, 4, 0), (4, 0, 1, 2, 3)]), ((1, 0, 2), D4_GENS), ((0, 1, 2), S4_GENS),
                       ((1, 0, 2), regular_moves(D4_GENS)), ((0, 1), regular_moves([(1, 0, 2), (0, 2, 1)]))]:
        for _ in range(4):
            words = {0: ()}
            while len(words) < len(gens[0]):
                point = chance.choice(list(words))
                letter = chance.randrange(len(back))
                words.setdefault(gens[letter][point], words[point] + (letter,))
            found.append(tree_claim(back, gens, words))
    return found


def plain_distances(steady, most):
    known = {(): 0}
    level = [()]
    for far in range(1, most + 1):
        level = [to for word in level for k in range(len(steady.claim.group.back)) for to in [led(steady, word, (k,))]]
        for to in level:
            known.setdefault(to, far)
        level = sorted({to for to in level if known[to] == far})
    return known


def claims():
    return chance_claims() + [
        three_claim(), cyclic_claim(1), cyclic_claim(6), two_claim(), endless_claim(), s3_claim(), s4_claim(), d4_claim(),
        points_claim(), line_claim(), far_claim(3), claim_free(three_claim(), two_claim()),
        claim_free(cyclic_claim(5), two_claim()), claim_direct(endless_claim(), endless_claim()),
        claim_direct(cyclic_claim(5), endless_claim()), claim_direct(endless_claim(), three_claim())]


class Shortness(unittest.TestCase):

    def test_by_words(self):
        for claim in claims():
            steady = Steady(claim)
            many = len(claim.group.back)
            words = language(claim.words, 6 if many < 4 else 5)
            told = gains(steady=steady)
            longer, later = [], []
            self.assertEqual(len(told), many)
            for letter in range(many):
                found = [len(led(steady, word, (letter,))) - len(word) for word in words]
                self.assertEqual((min(found), max(found)), told[letter])
            for word in words:
                for letter in range(many):
                    to = led(steady, word, (letter,))
                    longer += [(word, letter)] * (len(to) > len(word) + 1)
                    later += [(word, letter)] * (order(to) > order(word + (letter,)))
            self.assertEqual(longer_at(steady=steady), longer[0] if longer else None)
            self.assertEqual(later_at(steady=steady), later[0] if later else None)
            self.assertIs(is_shortest(steady=steady), not longer)
            self.assertIs(is_least(steady=steady), not later)

    def test_exactly_if(self):
        # Among all words of few letters that lead to one normal word it is as short, or as small, as any.
        for claim in [three_claim(), cyclic_claim(4), cyclic_claim(5), s3_claim(), d4_claim(), endless_claim()] \
                + chance_claims()[12:]:
            steady = Steady(claim)
            many = len(claim.group.back)
            groups = {}
            for size in range(6):
                for word in itertools.product(range(many), repeat=size):
                    groups.setdefault(normal(steady, word), []).append(word)
            if all(len(word) <= 5 for word in groups):
                self.assertIs(is_shortest(steady), all(len(word) <= len(groups[word][0]) for word in groups))
                self.assertIs(is_least(steady), all(word == groups[word][0] for word in groups))
            most = max(gain for _, gain in gains(steady))
            for word, others in groups.items():
                self.assertTrue(all(len(word) <= len(other) * most for other in others if other))

    def test_some(self):
        six = Steady(cyclic_claim(6))
        self.assertEqual(gains(six), [(-5, 1), (-1, 5)])
        self.assertEqual(longer_at(six), ((), 1))
        self.assertEqual(later_at(six), ((), 1))
        # As short as any, but not the least: (1, 0) instead of (0, 1).
        moves = regular_moves([(1, 0, 2, 3), (0, 1, 3, 2)])
        words = {0: (), moves[0][0]: (0,), moves[1][0]: (1,), moves[0][moves[1][0]]: (1, 0)}
        four = Steady(tree_claim((0, 1), moves, words))
        self.assertIs(is_shortest(four), True)
        self.assertEqual(later_at(four), ((0,), 1))
        self.assertIs(is_least(four), False)
        # Letters 1 and 2 lead alike, and the greater one stands in normal words: at () or further on.
        moves = [[1, 0, 2], [0, 2, 1], [0, 2, 1]]
        further = Steady(tree_claim((0, 1, 2), moves, {0: (), 1: (0,), 2: (0, 2)}))
        self.assertEqual((later_at(further), longer_at(further)), (((0,), 1), None))
        self.assertIsNone(later_at(Steady(tree_claim((0, 1, 2), moves, {0: (), 1: (0,), 2: (0, 1)}))))
        self.assertEqual(later_at(Steady(tree_claim((0, 1), [[1, 0], [1, 0]], {0: (), 1: (1,)}))), ((), 0))

    def test_errors(self):
        for thing in ODD_VALUES + [three_claim()]:
            for function in (gains, longer_at, later_at, is_shortest, is_least):
                refused(self, BadSteady(None), function, thing)


class Distances(unittest.TestCase):

    def test_balls(self):
        for claim in claims():
            steady = Steady(claim)
            for most in range(5):
                known = plain_distances(steady, most)
                self.assertEqual(ball(steady=steady, most=most), sorted((far, word) for word, far in known.items()))

    def test_distances_and_shortest_words(self):
        for claim in claims():
            steady = Steady(claim)
            many = len(claim.group.back)
            known = plain_distances(steady, 5 if many < 4 else 4)
            for word, far in known.items():
                self.assertEqual(distance(steady=steady, word=word), far)
                self.assertEqual(distance(steady, word + (0, claim.group.back[0])), far)
            groups = {}
            for size in range(5 if many < 4 else 4):
                for word in itertools.product(range(many), repeat=size):
                    groups.setdefault(normal(steady, word), []).append(word)
            for word, others in groups.items():
                wanted = [other for other in others if len(other) == len(others[0])]
                self.assertEqual(shortest_words(steady=steady, word=others[-1]), wanted)

    def test_40_letters_away(self):
        steady = Steady(endless_claim())
        self.assertEqual(len(ball(steady, 40)), 81)
        self.assertEqual(ball(steady, 0), [(0, ())])
        self.assertEqual(ball(steady, 1), [(0, ()), (1, (0,)), (1, (1,))])
        # Ascending as tuples, so longer words may come first.
        self.assertEqual(ball(Steady(cyclic_claim(5)), 40),
                         [(0, ()), (1, (0,)), (1, (0, 0, 0, 0)), (2, (0, 0)), (2, (0, 0, 0))])
        for most in [-1, 41, True, None, "0", 1.0]:
            refused(self, BadNumber("most"), ball, steady, most)

    def test_3000_words_in_balls(self):
        # 2 n (n + 1) + 1 elements of two numbers: 2965 for n = 38, 3121 for n = 39.
        pair = Steady(claim_direct(endless_claim(), endless_claim()))
        self.assertEqual(len(ball(pair, 38)), 2965)
        refused(self, TooMany(3000), ball, pair, 39)
        free = Steady(claim_free(endless_claim(), endless_claim()))
        self.assertEqual(len(ball(free, 6)), 1457)
        refused(self, TooMany(3000), ball, free, 7)
        # As short as can be, a distance needs no ball.
        self.assertEqual(distance(free, (0, 2) * 100), 200)
        self.assertEqual(distance(pair, (0, 2) * 50 + (1,) * 50), 50)
        self.assertEqual(shortest_words(free, (0, 2) * 100), [(0, 2) * 100])

    def test_just_3000_words(self):
        three = Steady(digits_claim(3000, 15))
        self.assertEqual(len(ball(three, 40)), 3000)
        refused(self, TooMany(3000), ball, Steady(digits_claim(3001, 15)), 40)
        # The farthest elements have just so many with a lesser distance.
        for many, lesser in [(3012, 3000), (3021, 3001)]:
            steady = Steady(digits_claim(many, 16))
            self.assertFalse(is_shortest(steady))
            levels = round_levels(many, 16)
            self.assertEqual(sum(map(len, levels[:18])), lesser)
            for number in (levels[17][0], levels[18][0]):
                word = (4,) * (number // 256) + (2,) * (number // 16 % 16) + (0,) * (number % 16)
                self.assertEqual(normal(steady, word), word)
                if number in levels[18] and lesser > 3000:
                    refused(self, TooMany(3000), distance, steady, word)
                    refused(self, TooMany(3000), shortest_words, steady, word)
                else:
                    self.assertEqual(distance(steady, word), 18 if number in levels[18] else 17)

    def test_many_shortest_words(self):
        pair = Steady(claim_direct(endless_claim(), endless_claim()))
        # 14 over 6 is 3003, and 13 over 6 is 1716; 77 over 2 is 2926, and 78 over 2 is 3003.
        self.assertEqual(len(shortest_words(pair, (0,) * 6 + (2,) * 7)), 1716)
        refused(self, TooMany(3000), shortest_words, pair, (0,) * 6 + (2,) * 8)
        self.assertEqual(len(shortest_words(pair, (0,) * 2 + (2,) * 75)), 2926)
        refused(self, TooMany(3000), shortest_words, pair, (0,) * 2 + (2,) * 76)
        refused(self, TooMany(3000), shortest_words, pair, (0, 2) * 100)
        # Just 3000: 10 of 5 over 2, 10 again, and 30 of 30 over 1, with a letter of the other side between.
        mixed = Steady(claim_free(claim_direct(endless_claim(), endless_claim()), two_claim()))
        word = (0,) * 2 + (2,) * 3 + (4,)
        self.assertEqual(len(shortest_words(mixed, word)), 20)
        both = (0,) * 2 + (2,) * 3
        single = Steady(claim_free(claim_direct(endless_claim(), endless_claim()), endless_claim()))
        self.assertEqual(len(shortest_words(single, both + (4,) + both + (4,) + (0,) + (2,) * 29)), 3000)
        refused(self, TooMany(3000), shortest_words, single, both + (4,) + both + (4,) + (0,) + (2,) * 30)
        self.assertEqual(len(shortest_words(single, (0,) + (2,) * 2 + (4,) + (0,) + (2,) * 9 + (4,) + (0,) + (2,) * 99)), 3000)

    def test_errors(self):
        steady = Steady(three_claim())
        for thing in ODD_VALUES + [three_claim()]:
            refused(self, BadSteady(None), ball, thing, None)
            refused(self, BadSteady(None), distance, thing, None)
            refused(self, BadSteady(None), shortest_words, thing, None)
            refused(self, BadSteady(None), order_of, thing, None, None)
        for word in [None, [], (2,), (True,), "0", (0,) * 201]:
            refused(self, BadWord("x"), distance, steady, word)
            refused(self, BadWord("x"), shortest_words, steady, word)
            refused(self, BadWord("x"), order_of, steady, word, None)
        for most in [0, 201, True, None, "1", 1.0, -1]:
            refused(self, BadNumber("most"), order_of, steady, (), most)


def round_levels(many, base):
    """The numbers below many by how many steps of 1, base and base * base lead to them, round and round."""
    known = {0}
    levels = [[0]]
    while levels[-1]:
        levels.append([])
        for number in levels[-2]:
            for step in (1, -1, base, -base, base * base, -base * base):
                to = (number + step) % many
                if to not in known:
                    known.add(to)
                    levels[-1].append(to)
    return levels[:-1]


class Orders(unittest.TestCase):

    def test_orders(self):
        for many in (1, 2, 5, 12):
            steady = Steady(cyclic_claim(many))
            for times in range(many + 1):
                wanted = next(k for k in range(1, many + 1) if k * times % many == 0)
                self.assertEqual(order_of(steady=steady, word=(0,) * times, most=200), wanted)
                self.assertEqual(order_of(steady, (0,) * times, wanted), wanted)
                if wanted > 1:
                    self.assertIsNone(order_of(steady, (0,) * times, wanted - 1))
        line = Steady(endless_claim())
        self.assertIsNone(order_of(line, (0,) * 200, 200))
        self.assertEqual(order_of(line, (0, 1) * 100, 1), 1)
        product = Steady(claim_free(three_claim(), two_claim()))
        self.assertIsNone(order_of(product, (0, 2), 200))
        self.assertEqual(order_of(product, (0, 2, 0, 2, 1), 200), 3)

    def test_of_others(self):
        # Not by powers of the normal word: the word itself is put behind itself.
        steady = Steady(points_claim())
        self.assertEqual(order_of(steady, (1,), 5), 1)
        self.assertEqual(order_of(steady, (0, 1), 5), 3)
        self.assertEqual(order_of(steady, (0, 1, 0), 5), 1 if led(steady, (), (0, 1, 0)) == () else 2)

    def test_200_times(self):
        back, size = (1, 0), 200
        normals = {k: (0,) * min(k, 1) + (0,) * (k - min(k, 1)) for k in range(size)}
        moves = [[(k + 1) % size for k in range(size)], [(k - 1) % size for k in range(size)]]
        steady = Steady(tree_claim(back, moves, normals))
        self.assertEqual(order_of(steady, (0,), 200), 200)
        self.assertIsNone(order_of(steady, (0,), 199))
        self.assertEqual(order_of(steady, (0, 0), 200), 100)
        self.assertEqual(distance(steady, (0,) * 150), 50)
        self.assertEqual(shortest_words(steady, (0,) * 150), [(1,) * 50])
        self.assertEqual(shortest_words(steady, (0,) * 100), [(0,) * 100, (1,) * 100])


if __name__ == "__main__":
    unittest.main()
