"""Points 1 to 5 over the whole program: groups told, found, judged, asked, kept and written down."""

import itertools
import random
import unittest

from gatewords.alongs import unlike_at
from gatewords.claims import Claim
from gatewords.claimtexts import claim_of_text, claim_text
from gatewords.cosets import index_of
from gatewords.cosettables import found_table
from gatewords.equations import conjugators, sides_of
from gatewords.faults import fault, is_fault
from gatewords.finding import claim_found, paper_spanned
from gatewords.findmembers import members_found
from gatewords.groups import Group, is_road
from gatewords.grouptexts import group_of_text
from gatewords.histories import grown_log, live_log, live_of
from gatewords.judgeds import Judged
from gatewords.letters import free
from gatewords.lives import Live
from gatewords.machines import Machine, takes
from gatewords.normals import is_alike, normal
from gatewords.roadmakers import road_between
from gatewords.rowcounts import count_rows, fraction_counts, row_fraction
from gatewords.rowgrowth import how_many, is_finite
from gatewords.ruleways import broken
from gatewords.settling import complete
from gatewords.steadies import Steady
from gatewords.subgroups import Subgroup, spelled
from gatewords.systems import reduced
from gatewords.members import member_spelling
from tests.helpers import rows

TEXTS = ["<a A | a^6 = 1>", "<a b | (ab)^3 = 1>", "<a A b | a^5 = 1, (ab)^2 = 1>", "<a A b B | ab = ba>",
         "<a b c | (ab)^3 = 1, (bc)^3 = 1, (ca)^3 = 1>", "<a A b B |>", "<a A b | a^3 = 1>",
         "<a A b B | a^2 = b^2, aba = b>"]


def judged_of(text):
    """The Judged of the claim that is found of a group, by a paper that is found."""
    group = group_of_text(text)
    span, _, claim = claim_found(group, 20, 8 if "B" not in text else 3)
    steady = Steady(claim)
    paper = None
    while paper is None:
        paper = paper_spanned(steady, span)
        span += 1
    return Judged(claim, paper)


class Whole(unittest.TestCase):

    def setUp(self):
        self.judgeds = [judged_of(text) for text in TEXTS]

    def test_roads_or_unlike_normal_words(self):
        chance = random.Random(1)
        for judged in self.judgeds:
            group = judged.claim.group
            whole = complete(group, 20)
            for _ in range(40):
                one, other = (tuple(chance.randrange(len(group.back)) for _ in range(chance.randint(0, 6)))
                              for _ in range(2))
                alike = reduced(whole, one) == reduced(whole, other) if whole is not None else None
                road = road_between(judged, one, other)
                self.assertEqual(road is not None, is_alike(judged.steady, one, other))
                if road is not None:
                    self.assertTrue(is_road(group, one, other, road))
                if alike is not None:
                    self.assertEqual(alike, road is not None)
                    self.assertEqual(normal(judged.steady, one), reduced(whole, one))

    def test_a_bent_claim_shows_two_words(self):
        for judged in self.judgeds[:4]:
            claim = judged.claim
            many = len(claim.group.back)
            for place in range(many + 1):
                near = claim.nears[place]
                bent = Machine(near.letters, near.ways, near.ends[1:])
                wrong = Claim(claim.group, claim.words, claim.nears[:place] + (bent,) + claim.nears[place + 1:])
                found = fault(wrong)
                if found is not None:
                    self.assertTrue(is_fault(wrong, found))
                else:
                    self.assertEqual(bent, near)
            more = Claim(Group(claim.group.back, claim.group.rules + (((0,), ()),)), claim.words, claim.nears)
            place, word = broken(Steady(more))
            self.assertEqual(place, len(claim.group.rules))
            self.assertEqual(unlike_at(judged.steady, (0,), ()), word)

    def test_one_fraction(self):
        orders = [6, 6, 10, None, None, None, None, 8]
        for judged, order in zip(self.judgeds, orders):
            words = judged.claim.words
            self.assertEqual(how_many(words), order)
            self.assertEqual(is_finite(words), order is not None)
            over, under = row_fraction(words)
            self.assertEqual(fraction_counts(over, under, 20), [count_rows(words, length) for length in range(21)])

    def test_subgroups_in_two_ways(self):
        chance = random.Random(2)
        for judged in self.judgeds[:3] + self.judgeds[7:]:
            claim = judged.claim
            many = len(claim.group.back)
            for _ in range(5):
                sub = Subgroup(claim.group, [tuple(chance.randrange(many) for _ in range(3))])
                _, lot, paper = members_found(claim, sub)
                table = found_table(sub)
                self.assertEqual(index_of(claim, lot), len(table.ways))
                for word in rows(many, 3):
                    spelling = member_spelling(claim, sub, lot, paper, word)
                    self.assertEqual(spelling is not None, takes(table, word))
                    if spelling is not None:
                        self.assertTrue(is_alike(judged.steady, spelled(sub, spelling), word))

    def test_conjugate_words(self):
        for judged in self.judgeds[:3]:
            sides = sides_of(judged.steady)
            words = [word for word in rows(len(judged.claim.group.back), 3) if takes(judged.claim.words, word)]
            for one, other in itertools.product(words[:5], repeat=2):
                machine = conjugators(sides, one, other)
                for word in words:
                    self.assertEqual(takes(machine, word), is_alike(judged.steady, one + word, word + other))

    def test_no_rules(self):
        judged = self.judgeds[5]
        for word in rows(4, 4):
            self.assertEqual(normal(judged.steady, word), free((1, 0, 3, 2), word))

    def test_texts_and_logs(self):
        for judged in self.judgeds:
            claim = judged.claim
            self.assertEqual(claim_of_text(claim_text(claim)), claim)
            live = Live(claim.group)
            told = [(one.letters, one.ways, one.ends) for one in (claim.words,) + claim.nears]
            deeds = [("ask", ("finite",)), ("claim", told[0], tuple(told[1:]), judged.paper),
                     ("ask", ("alike", (0, 1), ())), ("put", (0, claim.group.back[0]), ())]
            for deed in deeds:
                live.do(deed)
            self.assertEqual(live.judged.claim.words, claim.words)
            log = live_log(live)
            again, length = live_of(log)
            self.assertEqual((again, length), (live, len(log)))
            self.assertEqual(again.answers(), live.answers())
            self.assertEqual(again.judged, live.judged)
            cut = log[:len(log) - 3]
            shorter, length = live_of(cut)
            self.assertEqual(shorter.deeds(), deeds[:3])
            self.assertEqual(grown_log(cut, deeds[3]), log)


if __name__ == "__main__":
    unittest.main()
