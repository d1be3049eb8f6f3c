"""Points [54], [55], [56] and [57]: guides, letters ahead, equations, centres."""

import itertools
import random
import unittest

from gatewords.centres import centralizer, centre, conjugates, is_commutative
from gatewords.directclaims import claim_direct
from gatewords.distances import ball
from gatewords.equations import Sides, conjugator, conjugators, is_conjugate, sides_of, solutions
from gatewords.errors import BadLefts, BadMachine, BadNumber, BadSteady, BadWord, NotShort, TooMany
from gatewords.freeclaims import claim_free
from gatewords.guides import guide_of, is_guide
from gatewords.leastforms import is_least_form, least_form
from gatewords.lefts import is_left, left_of
from gatewords.letters import free, undone
from gatewords.machines import takes
from gatewords.normals import is_alike, normal
from gatewords.pairmakers import same_pairs
from gatewords.pairs import pair_row
from gatewords.projections import firsts_of
from gatewords.rowasking import first_row
from gatewords.rowcounts import count_rows
from gatewords.rowgrowth import how_many
from gatewords.rowjoins import in_either, in_one
from gatewords.rowmakers import all_rows, just_rows, no_rows
from gatewords.steadies import Steady
from tests.examples import (acting_claim, cyclic_claim, d4_claim, endless_claim, far_claim, line_claim, near_of,
                            points_claim, regular_moves, s3_claim, s4_claim, three_claim, two_claim, with_rules)
from tests.helpers import ODD_VALUES, chance_near, language, paired, refused, rows


def order(word):
    return (len(word), word)


def free_claim():
    return claim_free(endless_claim(), endless_claim())


def plane_claim():
    return claim_direct(endless_claim(), endless_claim())


def round_claim():
    """Two letters that undo themselves, endlessly many words by turns."""
    return claim_free(two_claim(), two_claim())


def steps_claim(many, steps):
    """Numbers modulo many, two letters for each step, by least words."""
    every = [step for one in steps for step in (one, -one)]
    moves = [[(k + step) % many for k in range(many)] for step in every]
    return acting_claim(tuple(k ^ 1 for k in range(len(every))), moves, [])


def short_groups():
    """Claims of groups whose normal words are as short as any and whose shortest words stay near them."""
    return [three_claim(), two_claim(), endless_claim(), s3_claim(), s4_claim(), d4_claim(), free_claim(), round_claim(),
            claim_free(three_claim(), two_claim()), claim_direct(endless_claim(), three_claim()),
            claim_direct(round_claim(), three_claim()), steps_claim(6, (1, 2)), steps_claim(9, (1, 3)),
            steps_claim(7, (2, 3))]


def plain_guide(steady, most):
    """All pairs of a shortest word of at most most letters and its normal word."""
    back = steady.claim.group.back
    far = {word: size for size, word in ball(steady, most)}
    found = set()
    for size in range(most + 1):
        for word in itertools.product(range(len(back)), repeat=size):
            end = normal(steady, word)
            if far[end] == size:
                found.add((word, end))
    return found


class Guides(unittest.TestCase):

    def test_found(self):
        for claim in short_groups():
            steady = Steady(claim)
            back = claim.group.back
            guide = guide_of(steady=steady)
            self.assertIs(is_guide(steady=steady, near=guide), True)
            self.assertTrue(is_least_form(guide))
            most = 5 if len(back) < 4 else 3
            self.assertEqual(paired(back, guide, most), plain_guide(steady, most))
            firsts = firsts_of(back, guide)
            for size in range(most + 1):
                self.assertEqual(count_rows(firsts, size), sum(len(one) == size for one, _ in plain_guide(steady, most)))

    def test_judged(self):
        for claim in [three_claim(), s3_claim(), endless_claim(), claim_direct(endless_claim(), three_claim())]:
            steady = Steady(claim)
            back = claim.group.back
            guide = guide_of(steady)
            every = [(one, other) for one, other in plain_guide(steady, 2)]
            for one, other in every:
                self.assertIs(is_guide(steady, in_one(guide, near_of(back, [(one, other)]))), False)
            for pair in itertools.product(rows(len(back), 2), repeat=2):
                wider = in_either(guide, near_of(back, [pair]))
                self.assertIs(is_guide(steady, wider), pair in every)
            # Rows that are no pair rows do not count.
            odd = in_either(guide, just_rows((len(back) + 1) ** 2, [((len(back) + 1) ** 2 - 1,)]))
            self.assertNotEqual(odd, guide)
            self.assertIs(is_guide(steady, odd), True)
            self.assertIs(is_guide(steady, no_rows((len(back) + 1) ** 2)), False)
            self.assertIs(is_guide(steady, all_rows((len(back) + 1) ** 2)), False)
            for one, other in [((), (0,)), ((0,), ()), ((0, 0), (0,)), ((0,), (0, 0, 0)), ((0, back[0]), ())]:
                self.assertIs(is_guide(steady, in_either(guide, near_of(back, [(one, other)]))), False)

    def test_not_bounded(self):
        for claim in [plane_claim(), claim_direct(plane_claim(), plane_claim())]:
            with self.assertRaises(TooMany):
                guide_of(Steady(claim))

    def test_gaps_too_far(self):
        # Two letters by turns: both words of the farthest element go apart as far as half of the round.
        for many in (7, 8, 9, 10, 11):
            flips = [tuple(-k % many for k in range(many)), tuple((1 - k) % many for k in range(many))]
            steady = Steady(acting_claim((0, 1), regular_moves(flips), []))
            if many < 10:
                guide = guide_of(steady)
                self.assertIs(takes(guide, pair_row((0, 1), ((1, 0) * many)[:many], ((0, 1) * many)[:many])), True)
                self.assertIs(is_guide(steady, guide), True)
            else:
                with self.assertRaises(TooMany):
                    guide_of(steady)

    def test_of_steadies_that_tell_no_group(self):
        for claim in [points_claim(), line_claim(), acting_claim((1, 0), [[1, 2, 3, 0], [3, 0, 1, 2]], [])]:
            steady = Steady(claim)
            back = claim.group.back
            near = near_of(back, sorted(plain_guide(steady, 4)))
            self.assertIs(is_guide(steady, near), claim.group.back != line_claim().group.back)

    def test_not_short(self):
        steady = Steady(cyclic_claim(5))
        refused(self, NotShort("x"), guide_of, steady)
        refused(self, NotShort("x"), is_guide, steady, all_rows(9))
        for thing in ODD_VALUES:
            refused(self, BadMachine(None), is_guide, steady, thing)
            refused(self, BadSteady(None), is_guide, thing, None)
            refused(self, BadSteady(None), guide_of, thing)
        for letters in (1, 2, 3, 16):
            refused(self, BadMachine("letters"), is_guide, steady, all_rows(letters))


class Lefts(unittest.TestCase):

    def test_found(self):
        for claim in short_groups() + [cyclic_claim(5), cyclic_claim(17), plane_claim(), cyclic_claim(1),
                                       claim_direct(cyclic_claim(5), round_claim()), claim_free(cyclic_claim(4), two_claim())]:
            steady = Steady(claim)
            back = claim.group.back
            for letter in range(len(back)):
                near = left_of(steady=steady, letter=letter)
                self.assertIs(is_left(steady=steady, letter=letter, near=near), True)
                self.assertTrue(is_least_form(near))
                for word in language(claim.words, 4):
                    other = normal(steady, (letter,) + word)
                    self.assertTrue(takes(near, pair_row(back, word, other)))
                for one, other in paired(back, near, 4 if len(back) < 4 else 3):
                    self.assertEqual(normal(steady, (letter,) + one), other)

    def test_judged_exactly_if(self):
        for claim in [three_claim(), two_claim(), s3_claim(), endless_claim()]:
            steady = Steady(claim)
            back = claim.group.back
            every = language(claim.words, 3)
            for letter in range(len(back)):
                near = left_of(steady, letter)
                for one, other in itertools.product(every, repeat=2):
                    here = near_of(back, [(one, other)])
                    right = normal(steady, (letter,) + one) == other
                    self.assertIs(is_left(steady, letter, in_either(near, here)), right)
                    self.assertIs(is_left(steady, letter, in_one(near, here)), not right)
                for other in range(len(back)):
                    alike = is_alike(steady, (letter,), (other,))
                    self.assertIs(is_left(steady, other, near), alike)
                # What leads behind is not what leads ahead, but where letters commute.
                behind = claim.nears[letter + 1]
                self.assertIs(is_left(steady, letter, behind), all(
                    is_alike(steady, (letter, k), (k, letter)) for k in range(len(back))))
                odd = in_either(near, just_rows((len(back) + 1) ** 2, [((len(back) + 1) ** 2 - 1,)]))
                self.assertIs(is_left(steady, letter, odd), True)

    def test_through_all_maps_of_three(self):
        steady = Steady(three_claim())
        every = [(), (0,), (1,)]
        for goals in itertools.product(every, repeat=3):
            near = near_of((1, 0), list(zip(every, goals)))
            for letter in (0, 1):
                wanted = all(normal(steady, (letter,) + a) == b for a, b in zip(every, goals))
                self.assertIs(is_left(steady, letter, near), wanted)

    def test_chance(self):
        steady = Steady(three_claim())
        for seed in range(40):
            self.assertIs(is_left(steady, 0, chance_near(seed, (1, 0), 3)), False)

    def test_gaps_too_far(self):
        # Round of so many elements gaps go as far as to the opposite one.
        for many in (16, 17):
            left_of(Steady(cyclic_claim(many)), 0)
        for many in (18, 19, 40):
            for letter in (0, 1):
                with self.assertRaises(TooMany):
                    left_of(Steady(cyclic_claim(many)), letter)
            with self.assertRaises(TooMany):
                sides_of(Steady(cyclic_claim(many)))
        # The machines are lefts all the same.
        steady = Steady(cyclic_claim(40))
        self.assertIs(is_left(steady, 0, steady.claim.nears[1]), True)
        self.assertIs(is_left(steady, 1, steady.claim.nears[2]), True)

    def test_of_no_group(self):
        # is_left is promised of all Steadies: what commutes with all letters and is right at ().
        moves = [[1, 2, 3, 0], [3, 0, 1, 2], [2, 3, 0, 1]]
        steady = Steady(acting_claim((1, 0, 2), moves, []))
        for letter in range(3):
            self.assertIs(is_left(steady, letter, steady.claim.nears[letter + 1]), True)
        for claim in [points_claim(), line_claim(), far_claim(1)]:
            steady = Steady(claim)
            back = claim.group.back
            for letter in range(len(back)):
                same = same_pairs(back, claim.words)
                self.assertIs(is_left(steady, letter, same), normal(steady, (letter,)) == ())

    def test_errors(self):
        steady = Steady(three_claim())
        for thing in ODD_VALUES:
            refused(self, BadSteady(None), is_left, thing, None, None)
            refused(self, BadSteady(None), left_of, thing, None)
            refused(self, BadMachine(None), is_left, steady, 0, thing)
        for letter in [None, True, -1, 2, "0", 0.0]:
            # BadNumber stands ahead of BadMachine(None) here.
            refused(self, BadNumber("letter"), is_left, steady, letter, None)
            refused(self, BadNumber("letter"), left_of, steady, letter)
        for letters in (1, 2, 16):
            refused(self, BadMachine("letters"), is_left, steady, 1, all_rows(letters))


def finite_groups():
    return [three_claim(), two_claim(), s3_claim(), d4_claim(), cyclic_claim(6), s4_claim()]


def endless_groups():
    return [endless_claim(), plane_claim(), round_claim(), free_claim(), claim_free(three_claim(), two_claim()),
            claim_direct(round_claim(), three_claim()), claim_direct(endless_claim(), cyclic_claim(4))]


def chance_word(chance, many, most):
    return tuple(chance.randrange(many) for _ in range(chance.randrange(most + 1)))


class Equations(unittest.TestCase):

    def test_sides(self):
        steady = Steady(s3_claim())
        lefts = [left_of(steady, 0), left_of(steady, 1)]
        sides = Sides(steady=steady, lefts=lefts)
        lefts.append(1)
        self.assertEqual(sides.steady, steady)
        self.assertEqual(sides.lefts, (left_of(steady, 0), left_of(steady, 1)))
        self.assertIsInstance(sides.lefts, tuple)
        self.assertEqual(sides, sides_of(steady=steady))
        wide = in_either(lefts[0], just_rows(9, [(8,)]))
        self.assertNotEqual(sides, Sides(steady, [wide, lefts[1]]))
        self.assertFalse(sides == sides.lefts or sides == steady or steady == sides or sides == None)  # noqa: E711
        self.assertNotEqual(sides, sides_of(Steady(d4_claim())))
        loose = Steady(with_rules(s3_claim(), []))
        self.assertNotEqual(sides, Sides(loose, sides.lefts))

    def test_sides_refused(self):
        steady = Steady(s3_claim())
        one, other = left_of(steady, 0), left_of(steady, 1)
        for thing in ODD_VALUES + [s3_claim()]:
            refused(self, BadSteady(None), Sides, thing, None)
            refused(self, BadSteady(None), sides_of, thing)
        for lefts in ODD_VALUES + [[one], [one, other, one], [one, None], [one, all_rows(2)], (other,)]:
            refused(self, BadLefts(None), Sides, steady, lefts)
        refused(self, BadLefts(0), Sides, steady, [other, one])
        refused(self, BadLefts(1), Sides, steady, [one, one])
        refused(self, BadLefts(0), Sides, steady, (no_rows(9), no_rows(9)))

    def test_finite(self):
        chance = random.Random(5)
        for claim in finite_groups():
            steady = Steady(claim)
            sides = sides_of(steady)
            many = len(claim.group.back)
            every = language(claim.words, 6)
            self.assertEqual(len(every), how_many(claim.words))
            for _ in range(15):
                one, other = chance_word(chance, many, 5), chance_word(chance, many, 5)
                wanted = [x for x in every if normal(steady, one + x) == normal(steady, x + other)]
                self.check(sides, many, one, other, wanted)
                words = [chance_word(chance, many, 4) for _ in range(4)]
                found = [x for x in every
                         if normal(steady, words[0] + x + words[1]) == normal(steady, words[2] + x + words[3])]
                self.assertEqual(solutions(sides, *words), just_rows(many, found))

    def check(self, sides, many, one, other, wanted):
        self.assertEqual(conjugators(sides=sides, one=one, other=other), just_rows(many, wanted))
        self.assertIs(is_conjugate(sides=sides, one=one, other=other), bool(wanted))
        self.assertEqual(conjugator(sides=sides, one=one, other=other), min(wanted, key=order) if wanted else None)

    def test_endless(self):
        chance = random.Random(8)
        for claim in endless_groups():
            steady = Steady(claim)
            sides = sides_of(steady)
            many = len(claim.group.back)
            every = language(claim.words, 4)
            for trial in range(10):
                one = chance_word(chance, many, 3)
                x = chance_word(chance, many, 2)
                other = undone(claim.group.back, x) + one + x if trial % 2 else chance_word(chance, many, 3)
                found = conjugators(sides, one, other)
                self.assertTrue(is_least_form(found))
                for word in every:
                    self.assertIs(takes(found, word), is_alike(steady, one + word, word + other))
                self.assertFalse(first_row(in_one(found, claim.words)))
                if trial % 2:
                    self.assertTrue(takes(found, normal(steady, x)))
                    self.assertIs(is_conjugate(sides, one, other), True)
                self.assertEqual(conjugator(sides, one, other), first_row(found))
                words = [chance_word(chance, many, 2) for _ in range(4)]
                some = solutions(sides=sides, one=words[0], two=words[1], three=words[2], four=words[3])
                for word in every:
                    self.assertIs(takes(some, word), is_alike(steady, words[0] + word + words[1], words[2] + word + words[3]))

    def test_far_conjugators(self):
        steady = Steady(free_claim())
        sides = sides_of(steady)
        self.assertEqual(conjugator(sides, (0, 2, 0, 2), (2, 0, 2, 0)), (0,))
        self.assertEqual(conjugator(sides, (0, 2, 2), (2, 0, 2)), (3,))
        self.assertIs(is_conjugate(sides, (0, 2), (0, 3)), False)
        self.assertIs(is_conjugate(sides, (0, 2, 1, 3), ()), False)
        self.assertEqual(conjugator(sides, (0, 0, 2, 1, 1), (2,)), (0, 0))
        self.assertEqual(how_many(conjugators(sides, (0,), (0,))), None)
        self.assertIs(takes(conjugators(sides, (0,), (0,)), (0,) * 50), True)

    def test_long_words_without_rules(self):
        sides = sides_of(Steady(free_claim()))
        one, other = (0, 2) * 10, (2, 0) * 10
        found = conjugators(sides, one, other)
        wanted = {free((1, 0, 3, 2), one[:2] * k + (0,)) for k in range(4)} | {(3,), (3, 1, 3), (3, 1, 3, 1, 3)}
        self.assertEqual(set(language(found, 6)), {word for word in wanted if len(word) <= 6})
        self.assertIs(takes(found, (0, 2) * 100 + (0,)), True)
        self.assertEqual(first_row(found), (0,))
        self.assertEqual(conjugator(sides, (0,) * 20, (0,) * 19 + (2,)), None)
        self.assertEqual(language(conjugators(sides, (0,) * 20, (0,) * 20), 3),
                         [(), (0,), (1,), (0, 0), (1, 1), (0, 0, 0), (1, 1, 1)])

    def test_long_words_of_letters_that_commute(self):
        plane = plane_claim()
        steady = Steady(claim_direct(plane, plane))
        sides = sides_of(steady)
        self.assertEqual(conjugators(sides, (0,) * 14, (0,) * 14), least_form(steady.claim.words))
        self.assertEqual(conjugators(sides, (0, 2) * 7, (2,) * 6 + (0,) * 7), no_rows(8))

    def test_20_letters(self):
        steady = Steady(endless_claim())
        sides = sides_of(steady)
        self.assertEqual(conjugators(sides, (0,) * 20, (0,) * 20), steady.claim.words)
        self.assertEqual(conjugators(sides, (0,) * 20, (0,) * 19), no_rows(2))
        self.assertEqual(solutions(sides, (0,) * 10, (1,) * 10, (), ()), steady.claim.words)
        self.assertEqual(solutions(sides, (0,) * 10, (0,) * 10, (0,) * 10, (0,) * 9), no_rows(2))
        turning = sides_of(Steady(round_claim()))
        self.assertEqual(conjugator(turning, (0, 2) * 10, (2, 0) * 10), (0,))
        for word in [None, [], [0], (2,), (True,), "0", (0,) * 21]:
            for function in (conjugators, is_conjugate, conjugator):
                refused(self, BadWord("x"), function, sides, word, ())
                refused(self, BadWord("x"), function, sides, (), word)
        for word in [None, [], (2,), (True,), (0,) * 11]:
            for place in range(4):
                words = [(0,) * 10] * place + [word] + [None] * (3 - place)
                refused(self, BadWord("x"), solutions, sides, *words)
        for thing in ODD_VALUES + [steady, sides.lefts]:
            for function in (conjugators, is_conjugate, conjugator):
                refused(self, BadLefts(None), function, thing, None, None)
            refused(self, BadLefts(None), solutions, thing, None, None, None, None)
            refused(self, BadLefts(None), centralizer, thing, None)
            refused(self, BadLefts(None), centre, thing)
            refused(self, BadLefts(None), conjugates, thing, None)

    def test_large_finite(self):
        # Words of half of the group conjugate; the machine tells each of them.
        claim = acting_claim((1, 0), regular_moves([(1, 2, 3, 4, 5, 6, 7, 0), (7, 0, 1, 2, 3, 4, 5, 6)]), [])
        sides = sides_of(Steady(claim))
        self.assertEqual(conjugators(sides, (0,) * 9, (0,)), claim_words(claim))
        self.assertEqual(conjugators(sides, (0,) * 9, (1,)), no_rows(2))


def claim_words(claim):
    return least_form(claim.words)


def polygon_claim(size):
    """What turns a polygon round by 1, 3, 9, 27 and 81 corners, and over, by least words."""
    turns = []
    for step in (1, 3, 9, 27, 81):
        turns += [tuple((k + step) % size for k in range(size)), tuple((k - step) % size for k in range(size))]
    over = tuple(-k % size for k in range(size))
    return acting_claim((1, 0, 3, 2, 5, 4, 7, 6, 9, 8, 10), regular_moves(turns + [over]), [])


class Centres(unittest.TestCase):

    def test_finite(self):
        for claim in finite_groups():
            steady = Steady(claim)
            sides = sides_of(steady)
            many = len(claim.group.back)
            every = language(claim.words, 6)
            letters = [(k,) for k in range(many)]
            middle = [x for x in every if all(is_alike(steady, k + x, x + k) for k in letters)]
            self.assertEqual(centre(sides=sides), just_rows(many, middle))
            self.assertIs(is_commutative(steady=steady), len(middle) == len(every))
            for word in every[:12]:
                fixed = [x for x in every if is_alike(steady, word + x, x + word)]
                self.assertEqual(centralizer(sides=sides, word=word), just_rows(many, fixed))
                others = {normal(steady, undone(claim.group.back, x) + word + x) for x in every}
                self.assertEqual(conjugates(sides=sides, word=word), sorted(others, key=order))
                self.assertEqual(how_many(centralizer(sides, word)) * len(others), how_many(claim.words))

    def test_endless(self):
        wanted = {0: None, 1: None, 2: 1, 3: 1, 4: 1, 5: 3, 6: None}
        for place, claim in enumerate(endless_groups()):
            steady = Steady(claim)
            sides = sides_of(steady)
            found = centre(sides)
            self.assertEqual(how_many(found), wanted[place])
            letters = [(k,) for k in range(len(claim.group.back))]
            for word in language(claim.words, 4):
                self.assertIs(takes(found, word), all(is_alike(steady, k + word, word + k) for k in letters))
            self.assertIs(is_commutative(steady), place in (0, 1, 6))
        self.assertEqual(centre(sides_of(Steady(endless_claim()))), endless_claim().words)

    def test_100_conjugates(self):
        # Of a polygon the letter that turns it over has as many conjugates as it has corners, if these
        # are odd, and half as many otherwise.
        for size, many in ((99, 99), (200, 100), (101, 101)):
            sides = sides_of(Steady(polygon_claim(size)))
            self.assertEqual(len(conjugates(sides, (0,))), 2)
            if many > 100:
                refused(self, TooMany(100), conjugates, sides, (10,))
            else:
                self.assertEqual(len(conjugates(sides, (10,))), many)
        refused(self, TooMany(100), conjugates, sides_of(Steady(round_claim())), (0,))
        refused(self, TooMany(100), conjugates, sides_of(Steady(free_claim())), (0,))
        self.assertEqual(conjugates(sides_of(Steady(free_claim())), (0, 1)), [()])
        self.assertEqual(conjugates(sides_of(Steady(plane_claim())), (0,) * 200), [(0,) * 200])

    def test_words_of_20_letters(self):
        sides = sides_of(Steady(three_claim()))
        self.assertEqual(how_many(centralizer(sides, (0,) * 20)), 3)
        for word in [None, [], (2,), (True,), (0,) * 21]:
            refused(self, BadWord("x"), centralizer, sides, word)
        for word in [None, [], (2,), (True,), (0,) * 201]:
            refused(self, BadWord("x"), conjugates, sides, word)
        self.assertEqual(conjugates(sides, (0,) * 200), [(1,)])
        for thing in ODD_VALUES:
            refused(self, BadSteady(None), is_commutative, thing)


if __name__ == "__main__":
    unittest.main()
