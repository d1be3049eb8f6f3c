"""Points 31 to 33: words alike at spans, settled groups, roads to what is reduced."""

import random
import unittest

from gatewords.clashes import least_clash
from gatewords.errors import BadGroup, BadNumber, BadWord, TooMany
from gatewords.groups import Group, is_road
from gatewords.letters import rank
from gatewords.settling import complete, settled_span
from gatewords.spanroads import road_to_reduced
from gatewords.spans import spanned
from gatewords.systems import System, reduced
from tests.helpers import ODD_VALUES, refused, rows

FREE = (1, 0, 3, 2)
S3 = Group((0, 1), [((0, 1, 0), (1, 0, 1))])
THREE = Group((1, 0), [((0, 0, 0), ())])
PLANE = Group(FREE, [((0, 2), (2, 0))])
# Letter 2 makes two of each letter 0.
DOUBLING = Group(FREE, [((2, 0, 3), (0, 0))])
SURFACE = Group((1, 0, 3, 2, 5, 4, 7, 6), [((0, 2, 1, 3, 4, 6, 5, 7), ())])
# Alike with () only by way of longer words.
HIDDEN = Group(FREE, [((0, 2, 1), (2, 2)), ((2, 0, 3), (0, 0))])


def leasts_alike(group, span):
    """For each word of at most span letters the least one alike with it, by the words of the document."""
    many = len(group.back)
    leads = {word: word for word in rows(many, span)}

    def least(word):
        while leads[word] != word:
            word = leads[word]
        return word

    def make_alike(one, other):
        one, other = sorted([least(one), least(other)], key=rank)
        leads[other] = one
        return one != other

    for one, other in list(group.rules) + [((k, group.back[k]), ()) for k in range(many)]:
        if max(len(one), len(other)) <= span:
            make_alike(one, other)
    changed = True
    while changed:
        changed = False
        for word in list(leads):
            other = least(word)
            if word != other and len(word) < span:
                for k in range(many):
                    changed |= make_alike(word + (k,), other + (k,))
                    changed |= make_alike((k,) + word, (k,) + other)
    return {word: least(word) for word in leads}


def plain_spanned(group, span):
    """The rules of the System of a span, by going through all words."""
    leasts = leasts_alike(group, span)
    found = []
    for word, least in leasts.items():
        parts = [word[k:m] for k in range(len(word) + 1) for m in range(k, len(word) + 1) if m - k < len(word)]
        if least != word and all(leasts[part] == part for part in parts):
            found.append((word, least))
    return leasts, tuple(sorted(found, key=lambda rule: rank(rule[0])))


def chance_group(seed):
    """A group by chance, and a span whose words are few."""
    chance = random.Random(seed)
    back = chance.choice([(1, 0), (0, 1), (1, 0, 2), (0, 1, 2)])
    span = chance.randint(2, 6 if len(back) == 2 else 4)

    def word(most):
        return tuple(chance.randrange(len(back)) for _ in range(chance.randint(0, most)))

    return Group(back, [(word(span + 1), word(3)) for _ in range(chance.randint(0, 3))]), span


def rules_at(group, span):
    """How many rules a span has, 141 for more than 140."""
    try:
        return len(spanned(group, span).rules)
    except TooMany as error:
        assert error.most == 140
        return 141


class Spans(unittest.TestCase):

    def test_against_all_words(self):
        for seed in range(120):
            group, span = chance_group(seed)
            leasts, rules = plain_spanned(group, span)
            system = spanned(group, span)
            self.assertEqual(system, System(group.back, rules))
            for word in list(leasts)[::7]:
                self.assertEqual(reduced(system, word), leasts[word])

    def test_example(self):
        self.assertEqual(spanned(group=THREE, most=3).rules, (((0, 1), ()), ((1, 0), ()), ((0, 0, 0), ())))
        self.assertEqual(spanned(THREE, 4).rules,
                         (((0, 0), (1,)), ((0, 1), ()), ((1, 0), ()), ((1, 1), (0,))))

    def test_what_longer_words_tell_is_not_told(self):
        # Both letters are alike with (), but not over words of at most 3 letters alone.
        self.assertEqual(plain_spanned(HIDDEN, 3)[1], spanned(HIDDEN, 3).rules)
        self.assertNotIn(((0,), ()), spanned(HIDDEN, 3).rules)
        self.assertEqual(spanned(HIDDEN, 12).rules, tuple(((k,), ()) for k in range(4)))
        # A rule with a side that is too long tells nothing.
        group = Group((1, 0), [((0,) * 5, ())])
        self.assertEqual(len(spanned(group, 4).rules), 2)
        self.assertEqual(spanned(group, 5).rules[-1], ((0,) * 5, ()))

    def test_few_and_many_rules(self):
        most = 0
        for span in range(2, 16):
            many = rules_at(DOUBLING, span)
            self.assertGreaterEqual(many, most)
            most = many
        self.assertEqual(most, 141)
        group = Group((1, 0, 3, 2, 5, 4), [((0, 3, 2, 4), (3,)), ((3, 0, 2, 2), (0,))])
        self.assertEqual(len(spanned(group, 7).rules), 140)
        group = Group(FREE, [((1, 3, 3, 3), (2, 1))])
        self.assertLess(len(spanned(group, 8).rules), 141)
        refused(self, TooMany(140), spanned, group, 9)
        # Each two of 12 letters make one: 144 rules with those of the back, 12 of them told twice.
        back = tuple(range(12))
        pairs = [((k, m), ()) for k in range(12) for m in range(12) if k != m][:40]
        self.assertLess(rules_at(Group(back, pairs), 2), 141)
        refused(self, TooMany(140), spanned, Group(FREE, [((0, 2, 0), (2, 0, 2))]), 20)

    def test_spans_two_and_forty(self):
        self.assertEqual(spanned(PLANE, 2).rules, plain_spanned(PLANE, 2)[1])
        self.assertEqual(spanned(PLANE, 40), spanned(PLANE, 4))
        self.assertEqual(spanned(Group((1, 0), [((0,) * 40, ())]), 40).rules[-1][0], (0,) * 40)

    def test_wrong_inputs(self):
        for thing in ODD_VALUES:
            refused(self, BadGroup(None), spanned, thing, None)
            refused(self, BadGroup(None), settled_span, thing, 1)
            refused(self, BadGroup(None), complete, thing, 41)
            refused(self, BadGroup(None), road_to_reduced, thing, 1, None)
        for thing in [None, True, 1, 41, "2", 2.0, (2,), -3]:
            # The number is judged ahead of what would be too many.
            refused(self, BadNumber("most"), spanned, DOUBLING, thing)
            refused(self, BadNumber("most"), settled_span, DOUBLING, thing)
            refused(self, BadNumber("most"), complete, DOUBLING, thing)
            refused(self, BadNumber("most"), road_to_reduced, DOUBLING, thing, None)
        refused(self, BadWord("no word"), road_to_reduced, DOUBLING, 40, (4,))
        refused(self, BadWord("no word"), road_to_reduced, DOUBLING, 40, [0])
        refused(self, TooMany(140), road_to_reduced, DOUBLING, 15, ())


class Settling(unittest.TestCase):

    def test_the_least_span(self):
        self.assertEqual(settled_span(group=THREE, most=40), 4)
        self.assertIsNone(settled_span(THREE, 3))
        self.assertIsNone(settled_span(THREE, 2))
        self.assertIsNone(complete(THREE, 3))
        self.assertEqual(complete(group=THREE, most=4), spanned(THREE, 4))
        self.assertEqual(settled_span(Group((1, 0), []), 2), 2)
        self.assertEqual(settled_span(PLANE, 20), 4)

    def test_as_told_by_clashes(self):
        for seed in range(80):
            group, _ = chance_group(seed)
            room = max([2] + [len(side) for rule in group.rules for side in rule])
            first = None
            for span in range(room, 11):
                if rules_at(group, span) == 141:
                    first = "many"
                elif least_clash(spanned(group, span)) is None:
                    first = span
                if first is not None:
                    break
            if first == "many":
                refused(self, TooMany(140), settled_span, group, 10)
                continue
            self.assertEqual(settled_span(group, 10), first)
            if first is None:
                self.assertIsNone(complete(group, 10))
                continue
            whole = complete(group, 10)
            for span in range(first, 11):
                self.assertEqual(spanned(group, span), whole)
                self.assertEqual(settled_span(group, span), first)
            self.assertIsNone(settled_span(group, max(2, first - 1)) if first > 2 else None)

    def test_never_settled(self):
        self.assertIsNone(settled_span(SURFACE, 40))
        self.assertIsNone(complete(SURFACE, 40))

    def test_too_many_from_the_first_span_that_has_them(self):
        first = next(span for span in range(3, 20) if rules_at(DOUBLING, span) == 141)
        self.assertIsNone(settled_span(DOUBLING, first - 1))
        self.assertIsNone(complete(DOUBLING, first - 1))
        for most in (first, 40):
            refused(self, TooMany(140), settled_span, DOUBLING, most)
            refused(self, TooMany(140), complete, DOUBLING, most)

    def test_no_span_with_room(self):
        # All sides have to have room, so that no span is looked at.
        group = Group(FREE, DOUBLING.rules + (((0,) * 14, (0,) * 14),))
        self.assertIsNone(settled_span(group, 13))
        refused(self, TooMany(140), settled_span, group, 14)

    def test_many_rules_of_shorter_spans_are_not_looked_at(self):
        # At span 12 there would be too many rules; with room for all sides the group has few.
        first = next(span for span in range(3, 20) if rules_at(DOUBLING, span) == 141)
        rules = DOUBLING.rules + (((0,) * (first + 6), (0,) * (first + 5)),)
        group = Group(FREE, rules)
        self.assertEqual(rules_at(group, first), 141)
        self.assertEqual(settled_span(group, 40), first + 6)
        self.assertEqual(complete(group, 40).rules, (((0,), ()), ((1,), ()), ((2, 3), ()), ((3, 2), ())))

    def test_words_alike_in_the_group(self):
        whole = complete(S3, 10)

        def moved(word):
            points = [0, 1, 2]
            for letter in word:
                points[letter], points[letter + 1] = points[letter + 1], points[letter]
            return tuple(points)

        for one in rows(2, 5):
            for other in rows(2, 5)[::5]:
                self.assertEqual(reduced(whole, one) == reduced(whole, other), moved(one) == moved(other))
        whole = complete(PLANE, 10)
        for one in rows(4, 3):
            for other in rows(4, 3)[::7]:
                alike = all(one.count(k) - one.count(k + 1) == other.count(k) - other.count(k + 1) for k in (0, 2))
                self.assertEqual(reduced(whole, one) == reduced(whole, other), alike)


class Roads(unittest.TestCase):

    def test_example(self):
        road = road_to_reduced(group=THREE, most=4, word=(1, 1))
        self.assertTrue(is_road(THREE, (1, 1), (0,), road))
        self.assertEqual(road_to_reduced(THREE, 4, ()), [])

    def test_roads_of_all_kinds_of_words(self):
        chance = random.Random(3)
        for seed in range(100):
            group, _ = chance_group(seed)
            span = chance.randint(2, 9)
            many = rules_at(group, span)
            for size in (0, 2, 5, 12, 25):
                word = tuple(chance.randrange(len(group.back)) for _ in range(size))
                if many == 141:
                    refused(self, TooMany(140), road_to_reduced, group, span, word)
                    continue
                road = road_to_reduced(group, span, word)
                self.assertIsInstance(road, list)
                self.assertTrue(is_road(group, word, reduced(spanned(group, span), word), road))

    def test_longer_words_than_the_span(self):
        # At span 3 the system clashes, so that it matters which rule comes in first.
        for word in rows(2, 7)[::3]:
            goal = reduced(spanned(THREE, 3), word)
            self.assertTrue(is_road(THREE, word, goal, road_to_reduced(THREE, 3, word)))
        word = (0, 1) * 300 + (0,) * 100
        self.assertTrue(is_road(THREE, word, (0,), road_to_reduced(THREE, 40, word)))


if __name__ == "__main__":
    unittest.main()
