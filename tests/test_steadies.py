"""Points [41], [42], [43] and [50]: Steadies, machines along words, loops, normal words."""

import itertools
import random
import unittest

from gatewords.alongs import along, unlike_at
from gatewords.claims import Claim
from gatewords.composing import composed
from gatewords.directclaims import claim_direct
from gatewords.errors import BadBack, BadClaim, BadNumber, BadSteady, BadWord
from gatewords.freeclaims import claim_free
from gatewords.groups import Group
from gatewords.leastforms import least_form
from gatewords.letters import free, undone
from gatewords.loops import gaps, loops, ring
from gatewords.machines import Machine, goal, takes
from gatewords.normals import is_alike, normal, normal_undone, trail
from gatewords.pairmakers import same_pairs
from gatewords.pairs import words_of
from gatewords.steadies import Steady, led
from tests.examples import (D4_GENS, S3_GENS, S4_GENS, acting_claim, cyclic_claim, d4_claim, endless_claim, line_claim,
                            near_of, points_claim, regular_moves, s3_claim, s4_claim, three_claim, tree_words, two_claim)
from tests.helpers import ODD_VALUES, language, paired, refused, rows


def steadies():
    return [Steady(claim) for claim in [
        three_claim(), cyclic_claim(1), cyclic_claim(5), two_claim(), endless_claim(), s3_claim(), d4_claim(),
        points_claim(), line_claim(), claim_free(three_claim(), two_claim()),
        claim_direct(endless_claim(), three_claim()), claim_direct(endless_claim(), endless_claim())]]


def chance_words(seed, many, sizes):
    chance = random.Random(seed)
    return [tuple(chance.randrange(many) for _ in range(size)) for size in sizes]


def plainly_led(steady, start, word):
    """Led by what the nears take of short words, one letter after another."""
    back = steady.claim.group.back
    for letter in word:
        pairs = dict(paired(back, steady.claim.nears[letter + 1], 9))
        start = pairs[start]
    return start


class Steadies(unittest.TestCase):

    def test_made(self):
        claim = three_claim()
        steady = Steady(claim=claim)
        self.assertEqual(steady.claim, claim)
        self.assertEqual(steady, Steady(three_claim()))
        self.assertNotEqual(steady, Steady(cyclic_claim(3)))
        self.assertNotEqual(steady, Steady(Claim(Group((1, 0), []), claim.words, claim.nears)))
        self.assertNotEqual(steady, claim)
        self.assertFalse(steady == claim or claim == steady or steady == None)  # noqa: E711
        for thing in ODD_VALUES + [Group((1, 0), [])]:
            refused(self, BadClaim(None), Steady, thing)
        same = near_of((1, 0), [(a, a) for a in [(), (0,), (1,)]])
        refused(self, BadSteady(("step", 0, ())), Steady, Claim(claim.group, claim.words, [claim.nears[0], same, same]))

    def test_led_by_nears(self):
        for steady in [Steady(claim) for claim in [three_claim(), two_claim(), s3_claim(), endless_claim()]]:
            back = steady.claim.group.back
            for start in language(steady.claim.words, 3):
                for word in rows(len(back), 3):
                    self.assertEqual(led(steady, start, word), plainly_led(steady, start, word))

    def test_led_as_points_move(self):
        for claim, moves in [(s3_claim(), regular_moves(S3_GENS)), (s4_claim(), regular_moves(S4_GENS)),
                             (d4_claim(), regular_moves(D4_GENS)), (points_claim(), S3_GENS)]:
            steady = Steady(claim)
            words = tree_words(claim.group.back, moves)
            for seed, (point, start) in enumerate(words.items()):
                for word in chance_words(seed, len(claim.group.back), [0, 1, 5, 40]):
                    to = point
                    for letter in word:
                        to = moves[letter][to]
                    self.assertEqual(led(steady=steady, start=start, word=word), words[to])

    def test_an_action(self):
        for steady in steadies():
            back = steady.claim.group.back
            starts = language(steady.claim.words, 4)
            for start in starts:
                self.assertEqual(led(steady, (), start), start)
                self.assertEqual(led(steady, start, ()), start)
            for seed, word in enumerate(chance_words(3, len(back), [1, 2, 7, 30])):
                start = starts[seed % len(starts)]
                there = led(steady, start, word)
                self.assertTrue(takes(steady.claim.words, there))
                self.assertEqual(led(steady, there, undone(back, word)), start)
                self.assertEqual(led(steady, start, word + undone(back, word)), start)

    def test_long_words(self):
        steady = Steady(endless_claim())
        self.assertEqual(led(steady, (), (0,) * 3000), (0,) * 3000)
        self.assertEqual(led(steady, (0,) * 1500, (1,) * 3000), (1,) * 1500)
        product = Steady(claim_direct(endless_claim(), endless_claim()))
        word = chance_words(4, 4, [2000])[0]
        one = word.count(0) - word.count(1)
        other = word.count(2) - word.count(3)
        wanted = (0 if one > 0 else 1,) * abs(one) + (2 if other > 0 else 3,) * abs(other)
        self.assertEqual(led(product, (), word), wanted)

    def test_errors(self):
        steady = Steady(three_claim())
        for thing in ODD_VALUES + [three_claim()]:
            refused(self, BadSteady(None), led, thing, None, None)
        for start in [None, True, 0, "", "a", [], [0], (0, 0), (2,), (True,), (-1,), (0.0,), (None,), ((),), {}]:
            refused(self, BadWord("x"), led, steady, start, None)
        for word in [None, [], [0], (2,), (True,), (-1,), "0"]:
            refused(self, BadWord("x"), led, steady, (), word)


class Alongs(unittest.TestCase):

    def test_by_words(self):
        for steady in steadies():
            back = steady.claim.group.back
            for word in [()] + chance_words(8, len(back), [1, 2, 3, 5]):
                near = along(steady=steady, word=word)
                self.assertEqual(near, least_form(near))
                for a, b in paired(back, near, 5 if len(back) < 4 else 3):
                    self.assertTrue(takes(steady.claim.words, a))
                    self.assertEqual(led(steady, a, word), b)
                for a in language(steady.claim.words, 3):
                    b = led(steady, a, word)
                    self.assertEqual(words_of(back, self.row(back, a, b)), (a, b))
                    self.assertTrue(takes(near, self.row(back, a, b)))

    def row(self, back, one, other):
        many = len(back)
        pairs = itertools.zip_longest(one, other, fillvalue=many)
        return tuple(a * (many + 1) + b for a, b in pairs)

    def test_one_behind_the_other(self):
        for steady in steadies():
            back = steady.claim.group.back
            self.assertEqual(along(steady, ()), same_pairs(back, steady.claim.words))
            words = chance_words(2, len(back), [1, 2, 3])
            for one, other in itertools.product(words, words):
                self.assertEqual(composed(back, along(steady, one), along(steady, other)), along(steady, one + other))

    def test_equal_just_where_nothing_is_unlike(self):
        for steady in steadies():
            back = steady.claim.group.back
            words = [(), (0,)] + chance_words(6, len(back), [2, 3, 4])
            starts = language(steady.claim.words, 5 if len(back) < 4 else 4)
            for one, other in itertools.product(words, words):
                found = unlike_at(steady=steady, one=one, other=other)
                self.assertEqual(found is None, along(steady, one) == along(steady, other))
                apart = [a for a in starts if led(steady, a, one) != led(steady, a, other)]
                if apart:
                    self.assertEqual(found, apart[0])
                elif found is not None:
                    self.assertNotEqual(led(steady, found, one), led(steady, found, other))

    def test_some(self):
        line = Steady(line_claim())
        self.assertEqual(unlike_at(line, (2,), ()), ())
        # Far along the line letter 2 leads nothing; only words that come near are led apart.
        self.assertEqual(unlike_at(line, (0,) * 5 + (2,) + (1,) * 5, ()), (1,) * 4)
        self.assertEqual(unlike_at(line, (1,) * 5 + (2,) + (0,) * 5, ()), (0,) * 5)
        self.assertIsNone(unlike_at(line, (0, 1) * 30, (2, 2)))
        self.assertEqual(unlike_at(Steady(three_claim()), (0,), (1,)), ())
        self.assertIsNone(unlike_at(Steady(three_claim()), (0, 0), (1,)))
        self.assertIsNone(unlike_at(Steady(cyclic_claim(40)), (0,) * 400, ()))

    def test_far_apart(self):
        # One normal word far away alone is led apart.
        moves = [list(range(1, 12)) + [0], [11] + list(range(11)), list(range(10)) + [11, 10]]
        steady = Steady(acting_claim((1, 0, 2), moves, []))
        words = tree_words((1, 0, 2), moves)
        self.assertEqual(unlike_at(steady, (2,), ()), min(words[10], words[11], key=lambda w: (len(w), w)))

    def test_errors(self):
        steady = Steady(three_claim())
        for thing in ODD_VALUES:
            refused(self, BadSteady(None), along, thing, None)
            refused(self, BadSteady(None), unlike_at, thing, None, None)
        for word in [None, [], (2,), (True,), "0"]:
            refused(self, BadWord("x"), along, steady, word)
            refused(self, BadWord("x"), unlike_at, steady, word, ())
            refused(self, BadWord("x"), unlike_at, steady, (), word)


def plain_ring(back, word):
    left = []
    for letter in word:
        if left and left[-1] == back[letter]:
            left.pop()
        else:
            left.append(letter)
    while len(left) > 1 and left[0] == back[left[-1]]:
        left = left[1:-1]
    both = [tuple(left), tuple(back[letter] for letter in left[::-1])]
    return min(one[k:] + one[:k] for one in both for k in range(max(1, len(left))))


def plain_gaps(back, near):
    """The gaps, the least rows being found by going through all rows of few numbers."""
    many = len(back)
    found = [None] * len(near.ways)
    for row in [row for size in range(5) for row in itertools.product(range(near.letters), repeat=size)]:
        state = goal(near, row)
        if state is None or found[state] is not None or not leads_on(near, state):
            continue
        one, other = words_of(back, row)
        found[state] = free(back, tuple(back[x] for x in one[::-1]) + other)
    assert many
    return found


def leads_on(near, state):
    seen = [state]
    for one in seen:
        seen.extend({to for to in near.ways[one] if to is not None and to not in seen})
    return any(one in near.ends for one in seen)


class Loops(unittest.TestCase):

    def test_of_the_document(self):
        steady = Steady(three_claim())
        self.assertEqual(gaps(steady=steady, letter=0), [(), (1, 1)])
        self.assertEqual(loops(steady=steady), [(0, 0, 0)])

    def test_rings(self):
        self.assertEqual(ring(back=(1, 0), word=(1, 1, 0, 0)), ())
        self.assertEqual(ring((1, 0), (1, 1, 1)), (0, 0, 0))
        self.assertEqual(ring((0, 1), (0,)), (0,))
        self.assertEqual(ring((0, 1), (0, 0, 0)), (0,))
        self.assertEqual(ring((0, 1), (0, 1, 0)), (1,))
        chance = random.Random(3)
        for back in [(1, 0), (0, 1), (1, 0, 2), (2, 1, 0, 3)]:
            for _ in range(150):
                word = tuple(chance.randrange(len(back)) for _ in range(chance.randrange(14)))
                self.assertEqual(ring(back, word), plain_ring(back, word), (back, word))
        for word in itertools.product(range(2), repeat=9):
            self.assertEqual(ring((0, 1), word), plain_ring((0, 1), word))
            self.assertEqual(ring((1, 0), word), plain_ring((1, 0), word))
        self.assertEqual(ring((1, 0), (0, 1) * 3000 + (1,) * 4000), (0,) * 4000)
        for thing in ODD_VALUES:
            if thing not in [(0, 1), (1, 0)]:
                refused(self, BadBack("x"), ring, thing, None)
        for word in [None, [], (2,), (True,), "0"]:
            refused(self, BadWord("x"), ring, (1, 0), word)

    def test_gaps(self):
        for steady in [Steady(claim) for claim in [three_claim(), cyclic_claim(4), two_claim(), endless_claim(),
                                                   points_claim()]]:
            back = steady.claim.group.back
            for letter in range(len(back)):
                self.assertEqual(gaps(steady, letter), plain_gaps(back, steady.claim.nears[letter + 1]))

    def test_states_that_are_not_live(self):
        claim = three_claim()
        near = claim.nears[1]
        ways = [list(way) for way in near.ways]
        # One state more to which nothing leads, and one that leads nowhere; state 0 stands first.
        ways[0][0] = 3
        wide = Machine(9, ways + [[1] * 9, [3] * 9], near.ends)
        steady = Steady(Claim(claim.group, claim.words, [claim.nears[0], wide, claim.nears[2]]))
        self.assertEqual(gaps(steady, 0), [(), (1, 1), None, None])
        self.assertEqual(loops(steady), [(0, 0, 0)])

    def test_loops(self):
        for steady in steadies():
            back = steady.claim.group.back
            many = len(back)
            found = set()
            for letter in range(many):
                near = steady.claim.nears[letter + 1]
                known = gaps(steady, letter)
                for state, way in enumerate(near.ways):
                    if known[state] is None:
                        continue
                    for number, to in enumerate(way):
                        if to is not None and known[to] is not None:
                            x, y = divmod(number, many + 1)
                            word = (() if x == many else (back[x],)) + known[state] + (() if y == many else (y,)) \
                                + tuple(back[z] for z in known[to][::-1])
                            found.add(plain_ring(back, word))
                    if state in near.ends:
                        found.add(plain_ring(back, known[state] + (back[letter],)))
            self.assertEqual(loops(steady), sorted(found - {()}, key=lambda w: (len(w), w)))

    def test_new_lists(self):
        steady = Steady(three_claim())
        loops(steady).append(1)
        gaps(steady, 0).clear()
        self.assertEqual((loops(steady), gaps(steady, 0)), ([(0, 0, 0)], [(), (1, 1)]))

    def test_errors(self):
        steady = Steady(three_claim())
        for thing in ODD_VALUES:
            refused(self, BadSteady(None), gaps, thing, None)
            refused(self, BadSteady(None), loops, thing)
        for letter in [None, True, -1, 2, "0", 0.0]:
            refused(self, BadNumber("letter"), gaps, steady, letter)


class Normals(unittest.TestCase):

    def test_normal_words(self):
        for steady in steadies():
            back = steady.claim.group.back
            for word in [()] + chance_words(1, len(back), [1, 2, 9, 200]):
                found = normal(steady=steady, word=word)
                self.assertEqual(found, led(steady, (), word))
                told = trail(steady=steady, word=word)
                self.assertEqual(told, [led(steady, (), word[:k]) for k in range(len(word) + 1)])
                self.assertEqual(normal_undone(steady=steady, word=word), normal(steady, undone(back, word)))
                self.assertIs(is_alike(steady=steady, one=word, other=found[:200]), len(found) <= 200)

    def test_alike_exactly_if(self):
        moves = regular_moves(S3_GENS)
        steady = Steady(s3_claim())

        def end(word):
            point = 0
            for letter in word:
                point = moves[letter][point]
            return point

        words = rows(2, 4)
        for one in words:
            self.assertEqual([word for word in words if normal(steady, word) == word and is_alike(steady, word, one)],
                             [normal(steady, one)])
            for other in words:
                self.assertIs(is_alike(steady, one, other), end(one) == end(other))

    def test_errors(self):
        steady = Steady(three_claim())
        for thing in ODD_VALUES:
            for function in (normal, trail, normal_undone):
                refused(self, BadSteady(None), function, thing, None)
            refused(self, BadSteady(None), is_alike, thing, None, None)
        for word in [None, [], (2,), (True,), "0", (0,) * 201]:
            for function in (normal, trail, normal_undone):
                refused(self, BadWord("x"), function, steady, word)
            refused(self, BadWord("x"), is_alike, steady, word, ())
            refused(self, BadWord("x"), is_alike, steady, (), word)
        self.assertEqual(normal(steady, (0,) * 200), (1,))


if __name__ == "__main__":
    unittest.main()
