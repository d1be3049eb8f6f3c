"""Points [24] to [26]: nears made, projected and composed."""

import random
import unittest

from gatewords.composing import composed, first_split
from gatewords.errors import BadBack, BadMachine, BadNumber, BadWord, TooMany
from gatewords.leastforms import is_least_form
from gatewords.letters import rank
from gatewords.machines import Machine, takes
from gatewords.pairmakers import all_pairs, ordered_pairs, pairs_of, put_pairs, same_pairs, turned_pairs
from gatewords.pairs import is_pair_row, pair_row
from gatewords.projections import firsts_of, led_to, partner_of, seconds_of
from gatewords.rowasking import is_among
from gatewords.rowmakers import all_rows, free_rows, just_rows, no_rows
from tests.examples import endless_claim, near_of
from tests.helpers import ODD_VALUES, chain, chance_machine, chance_near, paired, refused, rows

BACK = (1, 0)
TWELVE = tuple(range(12))
WORDS = free_rows(2, [(0, 1), (1, 0)])


def nears():
    """Small nears by chance; they take rows that are no pair rows, too."""
    for seed in range(60):
        yield chance_near(seed, BACK, 1 + seed % 3, (0.4, 0.6, 0.8)[seed % 3], (0.3, 0.6)[seed % 2])


def some_words():
    for seed in range(20):
        yield chance_machine(seed + 500, 2, 1 + seed % 4, 0.3)


class Nears(unittest.TestCase):

    def check(self, near, wanted, back=BACK, most=3):
        self.assertIs(is_least_form(near), True)
        self.assertEqual(near.letters, (len(back) + 1) ** 2)
        words = rows(len(back), most)
        self.assertEqual(paired(back, near, most), {(a, b) for a in words for b in words if wanted(a, b)})
        for row in rows(near.letters, 3 if len(back) == 2 else 2):
            if takes(near, row):
                self.assertIs(is_pair_row(back, row), True)


class Makers(Nears):

    def test_all_and_ordered(self):
        for back in (BACK, (0, 1), (1, 0, 2)):
            self.check(all_pairs(back), lambda a, b: True, back, 2)
            self.check(ordered_pairs(back), lambda a, b: rank(a) < rank(b), back, 3 if len(back) == 2 else 2)
        self.assertEqual(all_pairs(back=TWELVE).letters, 169)
        self.assertEqual(ordered_pairs(back=TWELVE).letters, 169)

    def test_pairs_of(self):
        machines = list(some_words())
        for one, other in zip(machines, machines[1:]):
            self.check(pairs_of(BACK, one, other), lambda a, b: takes(one, a) and takes(other, b))
        self.assertEqual(pairs_of(BACK, all_rows(2), all_rows(2)), all_pairs(BACK))
        self.assertEqual(pairs_of(BACK, no_rows(2), all_rows(2)), no_rows(9))
        self.assertEqual(pairs_of(other=all_rows(2), one=no_rows(2), back=BACK), no_rows(9))

    def test_same_pairs(self):
        for words in some_words():
            self.check(same_pairs(BACK, words), lambda a, b: a == b and takes(words, a))
        self.assertEqual(same_pairs(words=no_rows(2), back=BACK), no_rows(9))

    def test_put_pairs(self):
        for words in some_words():
            for letter in (0, 1):
                near = put_pairs(BACK, words, letter)
                self.check(near, lambda a, b: b == a + (letter,) and takes(words, b))

    def test_put_pairs_of_the_document(self):
        near = put_pairs(back=BACK, words=WORDS, letter=0)
        self.assertEqual(near, Machine(9, ((0,) + (None,) * 5 + (1, None, None), (None,) * 9), (1,)))
        self.assertIs(takes(near, pair_row(BACK, (0, 0), (0, 0, 0))), True)
        self.assertEqual(partner_of(BACK, near, (0, 0)), (0, 0, 0))
        self.assertEqual(seconds_of(BACK, near), just_or_more())
        there = composed(BACK, near, turned_pairs(BACK, near))
        self.assertEqual(there, same_pairs(BACK, free_rows(2, [(1,)])))

    def test_turned_pairs(self):
        for near in nears():
            self.check(turned_pairs(BACK, near), lambda a, b: takes(near, pair_row(BACK, b, a)))
        self.assertEqual(turned_pairs(near=all_pairs(BACK), back=BACK), all_pairs(BACK))

    def test_many_states(self):
        self.assertEqual(len(same_pairs(BACK, chain(1999, 2)).ways), 2000)
        self.assertEqual(len(put_pairs(BACK, chain(1999, 2), 0).ways), 2000)
        every = Machine(2, [[(k + 1) % 2000, None] for k in range(2000)], list(range(2000)))
        self.assertEqual(len(put_pairs(BACK, every, 0).ways), 2)
        ends = Machine(2, [[(k + 1) % 2000, None] for k in range(2000)], [0])
        refused(self, TooMany(2000), put_pairs, BACK, ends, 0)
        fewer = Machine(2, [[(k + 1) % 1999, None] for k in range(1999)], [0])
        self.assertEqual(len(put_pairs(BACK, fewer, 0).ways), 2000)
        self.assertEqual(len(pairs_of(BACK, chain(1000, 2), just_rows(2, [()])).ways), 1001)
        self.assertEqual(len(pairs_of(BACK, some_ring(43), some_ring(44)).ways), 43 * 44 + 43 + 44)
        refused(self, TooMany(2000), pairs_of, BACK, some_ring(45), some_ring(44))
        refused(self, TooMany(2000), pairs_of, BACK, some_ring(199), some_ring(200))
        # Three times as many states where rows other than pair rows are taken.
        free = Machine(9, [[(k + 1) % 700] * 9 for k in range(700)], [0])
        refused(self, TooMany(2000), turned_pairs, BACK, free)

    def test_errors(self):
        one, near = all_rows(2), all_pairs(BACK)
        for thing in ODD_VALUES:
            for function in (same_pairs, turned_pairs, firsts_of, seconds_of, first_split):
                refused(self, BadMachine(None), function, None, thing)
            refused(self, BadMachine(None), put_pairs, None, thing, None)
            refused(self, BadMachine(None), partner_of, None, thing, None)
            for function in (pairs_of, led_to, composed):
                refused(self, BadMachine(None), function, None, one, thing)
                refused(self, BadMachine(None), function, None, thing, one)
        for back in [None, [1, 0], (1, 1), (True, False)]:
            for function in (all_pairs, ordered_pairs):
                refused(self, BadBack("x"), function, back)
            for function in (same_pairs, turned_pairs, firsts_of, seconds_of, first_split):
                refused(self, BadBack("x"), function, back, all_rows(5))
            for function in (pairs_of, led_to, composed):
                refused(self, BadBack("x"), function, back, one, near)
            refused(self, BadBack("x"), put_pairs, back, near, None)
            refused(self, BadBack("x"), partner_of, back, one, None)
        for function, given in [(same_pairs, (near,)), (turned_pairs, (one,)), (firsts_of, (one,)),
                                (seconds_of, (one,)), (first_split, (one,)), (pairs_of, (near, one)),
                                (pairs_of, (one, near)), (led_to, (near, near)), (led_to, (one, one)),
                                (composed, (one, near)), (composed, (near, one)), (put_pairs, (near, None)),
                                (partner_of, (one, None))]:
            refused(self, BadMachine("letters"), function, BACK, *given)
        for letter in [None, True, -1, 2, "0"]:
            refused(self, BadNumber("letter"), put_pairs, BACK, one, letter)
        for word in [None, [0], (2,), (True,), (0,) * 201]:
            refused(self, BadWord("x"), partner_of, BACK, near, word)


def just_or_more():
    """The words of letters 0 alone, but ()."""
    return Machine(2, [[1, None], [1, None]], [1])


def some_ring(length):
    return Machine(2, [[(k + 1) % length, None] for k in range(length)], [0])


class Projections(Nears):

    def test_by_words(self):
        for near in nears():
            found = paired(BACK, near, 7)
            first, second = firsts_of(BACK, near), seconds_of(BACK, near)
            words = chance_machine(len(found), 2, 3, 0.3)
            led = led_to(BACK, words, near)
            for machine in (first, second, led):
                self.assertIs(is_least_form(machine), True)
                self.assertEqual(machine.letters, 2)
            for word in rows(2, 3):
                partners = sorted([b for a, b in found if a == word], key=rank)
                self.assertEqual(partner_of(BACK, near, word), partners[0] if partners else None)
                self.assertIs(takes(first, word), bool(partners))
                self.assertIs(takes(second, word), any(b == word for a, b in found))
                if any(b == word and takes(words, a) for a, b in found):
                    self.assertIs(takes(led, word), True)
            for word in rows(2, 2):
                just = led_to(BACK, just_rows(2, [word]), near)
                self.assertEqual({b for a, b in found if a == word}, {b for b in rows(2, 7) if takes(just, b)})

    def test_any_length(self):
        # (0,) with just one word, of 1500 letters.
        near = Machine(9, [[1] + [None] * 8] + [[None] * 6 + [k + 1] + [None] * 2 for k in range(1, 1500)]
                       + [[None] * 9], [1500])
        self.assertEqual(partner_of(BACK, near, (0,)), (0,) * 1500)
        self.assertEqual(firsts_of(BACK, near), just_rows(2, [(0,)]))
        self.assertEqual(seconds_of(BACK, near), just_rows(2, [(0,) * 1500]))
        self.assertIsNone(partner_of(BACK, near, (1,)))
        turned = turned_pairs(BACK, near)
        self.assertEqual(seconds_of(BACK, turned), just_rows(2, [(0,)]))
        self.assertEqual(partner_of(back=BACK, near=turned, word=(0,) * 200), None)
        self.assertEqual(composed(BACK, near, turned), near_of(BACK, [((0,), (0,))]))
        self.assertEqual(composed(BACK, turned, near), near_of(BACK, [((0,) * 1500, (0,) * 1500)]))

    def test_least_partners(self):
        near = near_of(BACK, [((0, 1), b) for b in [(1, 1), (0, 0, 0), (1, 0), (1, 1, 1)]] + [((), (1,)), ((), ())])
        self.assertEqual(partner_of(BACK, near, (0, 1)), (1, 0))
        self.assertEqual(partner_of(BACK, near, ()), ())
        near = near_of(BACK, [((0, 1, 0), (1, 1)), ((0, 1, 0), (0, 0, 0))])
        self.assertEqual(partner_of(BACK, near, (0, 1, 0)), (1, 1))
        self.assertEqual(partner_of(BACK, all_pairs(BACK), (0,) * 200), ())
        self.assertEqual(partner_of(BACK, ordered_pairs(BACK), (1, 1)), (0, 0, 0))

    def test_never_too_many(self):
        ends = Machine(9, [[(k + 1) % 2000] * 9 for k in range(2000)], [1999])
        self.assertEqual(partner_of(BACK, ends, (0, 1)), (0,) * 1999)
        self.assertEqual(firsts_of(BACK, ends), all_rows(2))

    def test_sets_of_standings(self):
        # That the tenth letter from the end is 1 is seen by many sets of states.
        for most, many in ((10, 1024), (11, 2048)):
            ways = [[None] * 9 for _ in range(most + 1)]
            for second in (0, 1):
                ways[0][3 * second] = 0
                for state in range(1, most):
                    ways[state][3 * second] = state + 1
            ways[0][4] = 1
            near = Machine(9, ways, [most])
            if many <= 2000:
                self.assertEqual(len(firsts_of(BACK, near).ways), many)
            else:
                refused(self, TooMany(2000), firsts_of, BACK, near)
            self.assertEqual(partner_of(BACK, near, (1,) * most), (1,) + (0,) * (most - 1))

    def test_led_to(self):
        put = put_pairs(BACK, WORDS, 0)
        self.assertEqual(led_to(BACK, just_rows(2, [(0,), (0, 0), (1,)]), put), just_rows(2, [(0, 0), (0, 0, 0)]))
        self.assertEqual(led_to(back=BACK, words=all_rows(2), near=put), seconds_of(BACK, put))
        for near in nears():
            self.assertEqual(firsts_of(BACK, near), led_to(BACK, all_rows(2), turned_pairs(BACK, near)))


class Composing(Nears):

    def test_through_words_of_every_length(self):
        machines = list(nears())
        for one, other in zip(machines, machines[7:]):
            near = composed(BACK, one, other)
            self.assertIs(is_least_form(near), True)
            for word in rows(2, 2):
                led = led_to(BACK, led_to(BACK, just_rows(2, [word]), one), other)
                self.assertEqual([b for b in rows(2, 3) if takes(near, pair_row(BACK, word, b))],
                                 [b for b in rows(2, 3) if takes(led, b)])

    def test_facts(self):
        machines = list(nears())
        every = same_pairs(BACK, all_rows(2))
        for one, two, three in zip(machines, machines[5:], machines[11:]):
            try:
                self.assertEqual(composed(BACK, composed(BACK, one, two), three),
                                 composed(BACK, one, composed(BACK, two, three)))
            except TooMany:
                continue
            alone = turned_pairs(BACK, turned_pairs(BACK, one))
            self.assertEqual(composed(BACK, every, one), alone)
            self.assertEqual(composed(BACK, one, every), alone)
            self.assertEqual(turned_pairs(BACK, composed(BACK, one, two)),
                             composed(BACK, turned_pairs(BACK, two), turned_pairs(BACK, one)))

    def test_endless(self):
        claim = endless_claim()
        self.assertEqual(composed(BACK, claim.nears[1], claim.nears[2]), claim.nears[0])
        self.assertEqual(composed(back=BACK, one=claim.nears[2], other=claim.nears[1]), claim.nears[0])
        self.assertEqual(turned_pairs(BACK, claim.nears[1]), turned_pairs(BACK, turned_pairs(BACK, claim.nears[2])))

    def test_first_split(self):
        for near in nears():
            split = first_split(BACK, near)
            there = composed(BACK, turned_pairs(BACK, near), near)
            self.assertEqual(split is None, is_among(there, same_pairs(BACK, all_rows(2))))
            found = paired(BACK, near, 6)
            several = [a for a in rows(2, 3) if len([b for c, b in found if c == a]) > 1]
            if several:
                two = sorted([b for c, b in found if c == several[0]], key=rank)[:2]
                self.assertEqual(split, (several[0], two[0], two[1]))
            elif split is not None:
                self.assertTrue(len(split[0]) > 3 or len(split[2]) > 6)

    def test_some_splits(self):
        self.assertIsNone(first_split(BACK, put_pairs(BACK, WORDS, 0)))
        self.assertIsNone(first_split(near=no_rows(9), back=BACK))
        self.assertEqual(first_split(BACK, all_pairs(BACK)), ((), (), (0,)))
        self.assertEqual(first_split(BACK, near_of(BACK, [((1,), (0, 0)), ((1,), (1,)), ((1,), (0, 1))])),
                         ((1,), (1,), (0, 0)))
        self.assertEqual(first_split(BACK, near_of(BACK, [((0, 1), ()), ((0, 1), (0, 1)), ((1, 1), (0,))])),
                         ((0, 1), (), (0, 1)))
        long = (0,) * 250
        self.assertEqual(first_split(BACK, near_of(BACK, [(long, ()), (long, (1,) * 400), (long, (1,) * 300)])),
                         (long, (), (1,) * 300))
        # The least word that is paired with several comes ahead of one with a lesser partner.
        self.assertEqual(first_split(BACK, near_of(BACK, [((0, 0), ()), ((0, 0), (0,)), ((1,), (1, 1)),
                                                          ((1,), (1, 0, 1))])), ((1,), (1, 1), (1, 0, 1)))

    def test_splits_by_chance(self):
        chance = random.Random(9)
        short = rows(2, 3)
        for _ in range(150):
            some = [(chance.choice(short), chance.choice(short)) for _ in range(chance.randrange(9))]
            several = sorted({a for a, b in some if len({d for c, d in some if c == a}) > 1}, key=rank)
            wanted = None
            if several:
                wanted = (several[0], *sorted({b for a, b in some if a == several[0]}, key=rank)[:2])
            self.assertEqual(first_split(BACK, near_of(BACK, some)), wanted)


if __name__ == "__main__":
    unittest.main()
