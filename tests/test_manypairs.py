"""Points 31 to 33 and 37: few rules at a span, though many more stand on the way to them; and surely too many."""

import random
import unittest

from gatewords.completing import Completion
from gatewords.errors import TooMany
from gatewords.finding import claim_found, claim_made
from gatewords.groups import Group, is_road
from gatewords.letters import free, undone
from gatewords.lettertexts import SMALL
from gatewords.settling import complete, settled_span
from gatewords.spanroads import road_to_reduced
from gatewords.spans import spanned
from gatewords.sureness import Ball, are_surely_more, tables_of
from tests.helpers import refused, rows


def back_of(many):
    """The back of so many letters, each of which is undone by the one beside it."""
    return tuple(k ^ 1 for k in range(many))


def word_of(text):
    """The word of a text, a and A being letters 0 and 1, b and B letters 2 and 3, .."""
    return tuple(2 * (ord(sign.lower()) - 97) + sign.isupper() for sign in text)


def group_of(many, *equations):
    """The group of so many letters and of rules told as texts."""
    return Group(back_of(many), [tuple(word_of(side) for side in text.split("=")) for text in equations])


# Each of these has many thousands of rules at span 40.
DOUBLING = group_of(4, "baB=aa")
TRIPLING = group_of(4, "baaB=aaa")
BRAIDS = group_of(6, "aba=bab", "bcb=cbc", "ac=ca")
CENTRAL = group_of(6, "abAB=c", "ac=ca", "bc=cb")
ENDLESS = [DOUBLING, TRIPLING, BRAIDS, CENTRAL]
# This one, too, but it has no other finite image than that of one element.
RING = group_of(8, "abA=bb", "bcB=cc", "cdC=dd", "daD=aa")


def chance_word(chance, many, size):
    """A word by chance without letters that undo one another."""
    word = []
    while len(word) < size:
        letter = chance.randrange(many)
        if not word or word[-1] != letter ^ 1:
            word.append(letter)
    return tuple(word)


def with_more(group, seed, rules_for):
    """A group with the further rules that rules_for tells for every other letter."""
    chance = random.Random(seed)
    many = len(group.back)
    rules = list(group.rules)
    for letter in range(0, many, 2):
        rules.extend(rules_for(letter, lambda size: chance_word(chance, many, size)))
    return Group(group.back, rules)


def conjugate_of_letter(letter, word):
    front = word(17)
    return [(front + (letter,) + undone(back_of(12), front), ())]


def letter_behind(letter, word):
    front = word(30)
    return [(front + (letter,), front)]


def letter_put_in(letter, word):
    whole = word(35)
    return [(whole, ()), (whole[:17] + (letter,) + whole[17:], ())]


def two_that_overlap(letter, word):
    one, two, three = word(13), word(11), word(13)
    return [(one + two, undone(back_of(12), three) + (letter,)), (two + three, undone(back_of(12), one))]


def two_powers(letter, word):
    return [((letter,) * 36, ()), ((letter,) * 35, ())]


def conjugate_powers(letter, word):
    front = word(8)
    end = undone(back_of(12), front)
    return [(front + (letter,) * times + end, ()) for times in (20, 21)]


def three_turned(letter, word):
    one, two, three = word(10), word(10), word(10)
    return [(one + two + three, ()), (two + one + three, (letter,)), (three + two + one, (letter, letter))]


KINDS = [conjugate_of_letter, letter_behind, letter_put_in, two_that_overlap, two_powers, conjugate_powers]


def all_gone(group):
    """The rules by which all letters are alike with ()."""
    return tuple(((letter,), ()) for letter in range(len(group.back)))


class FewRules(unittest.TestCase):

    def test_rules_of_long_sides_make_few_of_many(self):
        for base in ENDLESS + [RING]:
            for seed, kind in enumerate(KINDS):
                group = with_more(base, seed, kind)
                self.assertEqual(spanned(group, 40).rules, all_gone(group))

    def test_whatever_the_sequence_of_rules(self):
        for kind in KINDS:
            group = with_more(RING, 7, kind)
            for rules in (group.rules[::-1], group.rules[4:] + group.rules[:4], group.rules[1::2] + group.rules[::2]):
                self.assertEqual(spanned(Group(group.back, rules), 40).rules, all_gone(group))

    def test_many_thousands_stand_on_the_way(self):
        # Here words of two long sides have to be looked at, behind thousands of short ones.
        group = with_more(RING, 1, three_turned)
        completion = Completion(group, 40)
        completion.go_on(40)
        self.assertGreater(len(completion.found), 4000)
        self.assertEqual(completion.system().rules, all_gone(group))

    def test_some_letters_stay(self):
        # Letters 4 and 5 have no part in what makes the others alike with ().
        more = [rule for letter in (0, 2) for rule in two_powers(letter, None)]
        group = Group(BRAIDS.back, list(DOUBLING.rules) + more + [((4,) * 5, ())])
        rules = all_gone(DOUBLING) + (((4, 5), ()), ((5, 4), ()), ((4,) * 3, (5,) * 2), ((5,) * 3, (4,) * 2))
        self.assertEqual(spanned(group, 40).rules, rules)
        self.assertEqual(complete(group, 40).rules, rules)

    def test_a_long_rule_that_does_not_fit_tells_nothing(self):
        # At span 35 just one of both powers is told of, and 35 letters 2 stay.
        group = Group(DOUBLING.back, list(DOUBLING.rules) + [((2,) * 36, ()), ((2,) * 3, ())])
        self.assertEqual(spanned(group, 35), spanned(Group(group.back, group.rules[:1] + group.rules[2:]), 35))

    def test_settled_where_all_sides_have_room(self):
        for base in ENDLESS + [RING]:
            group = with_more(base, 1, two_powers)
            self.assertEqual(settled_span(group, 40), 36)
            self.assertEqual(settled_span(group, 36), 36)
            self.assertIsNone(settled_span(group, 35))
            self.assertEqual(complete(group, 40).rules, all_gone(group))

    def test_roads(self):
        for kind in KINDS:
            group = with_more(RING, 3, kind)
            for word in [(0,), (7,), (2, 4, 6), (5, 5, 1)]:
                road = road_to_reduced(group, 40, word)
                self.assertTrue(is_road(group, word, (), road))

    def test_claims(self):
        group = with_more(RING, 5, two_powers)
        claim = claim_made(group, 40, 1)
        self.assertEqual(claim_found(group, 40, 1), (36, 0, claim))
        self.assertEqual(claim.words.ways, ((None,) * 8,))
        self.assertEqual(claim.words.ends, (0,))


class SurelyTooMany(unittest.TestCase):

    def test_raised_where_it_is_sure(self):
        for group in ENDLESS:
            refused(self, TooMany(140), spanned, group, 40)
            refused(self, TooMany(140), settled_span, group, 40)
        refused(self, TooMany(140), road_to_reduced, TRIPLING, 40, (0,))
        refused(self, TooMany(140), claim_made, TRIPLING, 40, 0)


def least_by_completion(group, span, size):
    """The words of at most size letters that are least at a span, as strings."""
    completion = Completion(group, span)
    completion.asked_at = 10 ** 9
    completion.go_on(span)
    words = ["".join(SMALL[letter] for letter in word) for word in rows(len(group.back), size)]
    return {word for word in words if completion.reduced(word)[0] == word}


class Sureness(unittest.TestCase):

    def test_tables_of_known_groups(self):
        # Subgroups of 1, 2, 3, .. cosets of free groups, of whole numbers and pairs of them, of S3.
        for group, many in [(Group(back_of(4), []), [1, 3, 13, 71]), (Group(back_of(2), []), [1, 1, 1, 1, 1]),
                            (group_of(4, "ab=ba"), [1, 3, 4, 7, 6, 12]),
                            (Group((0, 1), [((0, 1, 0), (1, 0, 1))]), [1, 1, 3, 0, 0, 1])]:
            for points, expected in enumerate(many, start=1):
                tables = tables_of(group, points)
                self.assertEqual(len({str(table) for table in tables}), expected)
                self.assertEqual(len(tables), expected)
        self.assertEqual([len(tables_of(RING, points)) for points in (1, 2, 3, 4, 5)], [1, 0, 0, 0, 0])

    def test_tables_keep_rules(self):
        for group in ENDLESS:
            for points in (2, 3, 4):
                for table in tables_of(group, points):
                    for start in range(points):
                        for one, other in group.rules + tuple(((k, k ^ 1), ()) for k in range(len(group.back))):
                            ends = []
                            for side in (one, other):
                                here = start
                                for letter in side:
                                    here = table[here][letter]
                                ends.append(here)
                            self.assertEqual(*ends)

    def test_least_words_of_known_groups(self):
        # By whole numbers and pairs of them all is told apart.
        ball = Ball(group_of(4, "ab=ba"), 20000)
        whole = Completion(group_of(4, "ab=ba"), 10)
        whole.go_on(10)
        for word in rows(4, 6):
            string = "".join(SMALL[letter] for letter in word)
            self.assertEqual(ball.is_surely_least(string), whole.reduced(string)[0] == string)
        ball = Ball(Group((0, 1), [((0, 1, 0), (1, 0, 1))]), 20000)
        self.assertEqual(sorted(ball.leasts.values()), sorted(["", "a", "b", "ab", "ba", "aba"]))

    def test_surely_least_words_are_least_at_spans(self):
        for group in ENDLESS + [RING, group_of(4, "aaaa=", "bbbb=", "abababab=", "aBaBaBaB="),
                                Group((1, 0, 2), [((0, 2, 0), (2, 0, 2, 2)), ((0,) * 4, ())]),
                                Group((0, 1, 3, 2), [((0, 2, 0), (2, 2)), ((1, 3, 1), (0,))])]:
            # A small ball, so that words beyond it are asked for, too.
            for moves in (300, 30000):
                ball = Ball(group, moves)
                size = min(4, ball.radius + 2)
                least = least_by_completion(group, 7, size)
                for word in rows(len(group.back), size)[::3]:
                    string = "".join(SMALL[letter] for letter in word)
                    if ball.is_surely_least(string):
                        self.assertIn(string, least)
                    if free(group.back, word) != word:
                        self.assertFalse(ball.is_surely_least(string))

    def test_sure_left_sides_stay(self):
        for group in ENDLESS:
            completion = Completion(group, 12)
            completion.asked_at = 10 ** 9
            completion.go_on(8)
            lefts = list(completion.standing)
            ball = Ball(group, 100000)
            sure = [left for left in lefts if ball.is_surely_least(left[1:]) and ball.is_surely_least(left[:-1])]
            self.assertGreater(len(sure), 10)
            completion.go_on(9)
            for left in sure:
                self.assertIn(left, completion.standing)
            self.assertTrue(are_surely_more(group, lefts, 10, 400000))
            self.assertFalse(are_surely_more(group, lefts, len(lefts), 200000))

    def test_nothing_is_sure_of_what_may_go(self):
        group = with_more(DOUBLING, 2, two_powers)
        completion = Completion(DOUBLING, 14)
        completion.go_on(14)
        self.assertGreater(len(completion.standing), 400)
        self.assertFalse(are_surely_more(group, list(completion.standing), 1, 10 ** 6))
        self.assertTrue(are_surely_more(DOUBLING, list(completion.standing), 140, 10 ** 6))


if __name__ == "__main__":
    unittest.main()
