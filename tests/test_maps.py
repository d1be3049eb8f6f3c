"""Point [73]: maps."""

import itertools
import random
import unittest

from gatewords.claims import Claim
from gatewords.directclaims import claim_direct
from gatewords.errors import BadMap, BadWord, TooMany
from gatewords.groups import Group, near_words
from gatewords.maps import Map, broken_map, image, map_behind, undo_each_other
from gatewords.normals import is_alike, normal
from gatewords.steadies import Steady, led
from tests.examples import S3_RULES, THREE, cyclic_claim, d4_claim, endless_claim, s3_claim, s4_claim, three_claim, two_claim
from tests.helpers import ODD_VALUES, language, refused


def letters_map(one, other, images):
    return Map(one.claim.group, other, images)


class Maps(unittest.TestCase):

    def test_made(self):
        target = Steady(three_claim())
        images = [(0, 0), (1,)]
        one = Map(source=THREE, target=target, images=images)
        images.append((0,))
        self.assertEqual(one.source, THREE)
        self.assertEqual(one.target, target)
        self.assertEqual(one.images, ((0, 0), (1,)))
        self.assertIsInstance(one.images, tuple)
        self.assertEqual(one, Map(THREE, target, ((0, 0), (1,))))
        self.assertNotEqual(one, Map(THREE, target, ((0, 0), (1, 1, 1))))
        self.assertNotEqual(one, Map(Group((1, 0), []), target, ((0, 0), (1,))))
        self.assertNotEqual(one, Map(THREE, Steady(cyclic_claim(3)), ((0, 0), (1,))))
        self.assertFalse(one == one.images or one == None or one == THREE)  # noqa: E711
        self.assertEqual(Map(THREE, target, [(0,) * 40, ()]).images[0], (0,) * 40)

    def test_made_wrong(self):
        target = Steady(three_claim())
        for thing in ODD_VALUES + [target, three_claim()]:
            refused(self, BadMap("source"), Map, thing, None, None)
        for thing in ODD_VALUES + [three_claim(), THREE]:
            refused(self, BadMap("target"), Map, THREE, thing, None)
        wrong = [[(0,)], [(0,), (0,), (0,)], [(0,), (0,) * 41], [(0,), [0]], [(0,), (2,)], [(0,), (True,)], [(0,), None],
                 {0: (), 1: ()}]
        for images in [x for x in ODD_VALUES if x != ((0, 0), ())] + wrong:
            refused(self, BadMap("images"), Map, THREE, target, images)

    def test_images(self):
        target = Steady(s4_claim())
        chance = random.Random(1)
        for _ in range(20):
            images = [tuple(chance.randrange(3) for _ in range(chance.randrange(7))) for _ in range(2)]
            one = Map(Group((1, 0), []), target, images)
            for _ in range(10):
                word = tuple(chance.randrange(2) for _ in range(chance.randrange(9)))
                wanted = led(target, (), sum([images[letter] for letter in word], ()))
                self.assertEqual(image(one=one, word=word), wanted)
        one = Map(Group((1, 0), []), Steady(endless_claim()), [(0,) * 40, (1,) * 40])
        self.assertEqual(image(one, (0,) * 200), (0,) * 8000)
        self.assertEqual(image(one, ()), ())

    def test_broken(self):
        target = Steady(three_claim())
        self.assertIsNone(broken_map(one=Map(THREE, target, [(0,), (1,)])))
        self.assertIsNone(broken_map(Map(THREE, target, [(), ()])))
        self.assertEqual(broken_map(Map(THREE, target, [(0,), (0,)])), ("back", 0))
        # Letter 2 undoes itself, and its image does not.
        self.assertEqual(broken_map(Map(Group((1, 0, 2), []), target, [(0,), (1,), (0,)])), ("back", 2))
        rules = [((0,), (0, 0, 0, 0)), ((0, 0), ()), ((0,), ())]
        self.assertEqual(broken_map(Map(Group((1, 0), rules), target, [(0,), (1,)])), ("rule", 1))
        self.assertEqual(broken_map(Map(Group((1, 0), rules), target, [(0,), ()])), ("back", 0))
        self.assertIsNone(broken_map(Map(Group((0, 1), S3_RULES), Steady(two_claim()), [(0,), (1,)])))

    def test_alike_words_have_one_image_exactly_if(self):
        sources = [THREE, Group((0, 1), S3_RULES), Group((1, 0), []), Group((0, 1), [((0, 1), ())])]
        targets = [Steady(claim) for claim in (three_claim(), two_claim(), s3_claim())]
        for source, target in itertools.product(sources, targets):
            near = [word for word in near_words(source, (), 6)]
            every = language(target.claim.words, 3)
            for images in itertools.product(every, repeat=2):
                one = Map(source, target, images)
                kept = all(image(one, word) == () for word in near)
                self.assertEqual(broken_map(one) is None, kept)

    def test_one_behind_the_other(self):
        three, six = Steady(three_claim()), Steady(cyclic_claim(6))
        one = letters_map(three, six, [(0, 0), (1, 1)])
        other = letters_map(six, three, [(0, 0, 0, 0), (1,)])
        both = map_behind(one=one, other=other)
        self.assertEqual(both, Map(THREE, three, [normal(three, (0,) * 8), normal(three, (1,) * 2)]))
        for word in [(), (0,), (0, 0, 1), (1, 1, 1, 1)]:
            self.assertEqual(image(both, word), image(other, image(one, word)))
        refused(self, BadMap("source"), map_behind, one, one)
        refused(self, BadMap("source"), map_behind, one, Map(Group((1, 0), []), three, [(), ()]))

    def test_40_letters(self):
        line = Steady(endless_claim())
        source = line.claim.group
        twenty = Map(source, line, [(0,) * 20, (1,) * 20])
        double = Map(source, line, [(0, 0), (1, 1)])
        more = Map(source, line, [(0,), (1, 1, 1)])
        self.assertEqual(map_behind(twenty, double).images, ((0,) * 40, (1,) * 40))
        refused(self, TooMany(40), map_behind, twenty, more)
        self.assertEqual(map_behind(Map(source, line, [(0,) * 13, (1,) * 13]), more).images, ((0,) * 13, (1,) * 39))
        refused(self, TooMany(40), map_behind, Map(source, line, [(0,) * 40, (1,) * 40]), double)
        # It is the normal word that counts.
        self.assertEqual(map_behind(Map(source, line, [(0, 1) * 20, ()]), double).images, ((), ()))

    def test_undo_each_other(self):
        four = Steady(cyclic_claim(4))
        group = four.claim.group
        for k, m in itertools.product(range(4), repeat=2):
            one = Map(group, four, [(0,) * k, (1,) * k])
            other = Map(group, four, [(0,) * m, (1,) * m])
            self.assertIs(undo_each_other(one=one, other=other), k * m % 4 == 1)
        # Exactly if, through all pairs of maps of two groups of six elements.
        six = Steady(cyclic_claim(6))
        pair = Steady(claim_direct(three_claim(), two_claim()))
        there = [Map(six.claim.group, pair, images) for images in itertools.product(language(pair.claim.words, 2), repeat=2)]
        back = [Map(pair.claim.group, six, ((0,) * a, (0,) * b, (0,) * c, (0,) * c))
                for a in range(6) for b in range(6) for c in range(6)]
        there = [one for one in there if broken_map(one) is None]
        back = [one for one in back if broken_map(one) is None]
        self.assertEqual((len(there), len(back)), (6, 6))
        found = 0
        for one, other in itertools.product(there, back):
            led_back = all(image(other, image(one, w)) == w for w in language(six.claim.words, 5))
            onto = len({image(one, w) for w in language(six.claim.words, 5)}) == 6
            self.assertIs(undo_each_other(one, other), led_back and onto)
            found += led_back and onto
        self.assertEqual(found, 2)

    def test_one_side_alone(self):
        # Each element comes back one way round, and not the other way.
        three, six = Steady(three_claim()), Steady(cyclic_claim(6))
        one = Map(THREE, six, [(0, 0), (1, 1)])
        other = Map(six.claim.group, three, [(0, 0), (1, 1)])
        self.assertEqual(image(other, image(one, (0,))), (0,))
        self.assertIs(undo_each_other(one, other), False)
        self.assertIs(undo_each_other(other, one), False)
        # One way round leads back to a group, the other way does not.
        loose = Map(Group((1, 0), []), three, [(0,), (1,)])
        free = Steady(Claim(Group((1, 0), []), three.claim.words, three.claim.nears))
        further = Map(six.claim.group, free, [(0,), (1,)])
        refused(self, BadMap("source"), undo_each_other, loose, further)
        refused(self, BadMap("source"), undo_each_other, further, loose)

    def test_undo_long_and_broken(self):
        line = Steady(endless_claim())
        group = line.claim.group
        far = Map(group, line, [(0,) * 40, (1,) * 40])
        self.assertIs(undo_each_other(far, far), False)
        # Both are broken: letters alone are asked.
        swapped = Map(group, line, [(1,), (0,)])
        self.assertIs(undo_each_other(swapped, swapped), True)
        odd = Map(group, line, [(0,), (0,)])
        self.assertIs(undo_each_other(odd, odd), False)
        three = Steady(three_claim())
        loose = Steady(Claim(group, three.claim.words, three.claim.nears))
        one = Map(group, three, [(0,), (1,)])
        refused(self, BadMap("source"), undo_each_other, one, one)
        refused(self, BadMap("source"), undo_each_other, one, Map(THREE, three, [(0,), (1,)]))
        self.assertIs(undo_each_other(one, Map(THREE, loose, [(0, 0, 0, 0), (1,)])), True)
        self.assertIs(undo_each_other(one, Map(THREE, loose, [(0, 0), (1,)])), False)

    def test_whole_groups(self):
        square = Steady(d4_claim())
        turn = letters_map(square, square, [(1,), (0,), (0, 2)])
        self.assertIsNone(broken_map(turn))
        self.assertIs(undo_each_other(turn, turn), is_alike(square, (1, 0, 2), (2,)))

    def test_errors(self):
        one = Map(THREE, Steady(three_claim()), [(0,), (1,)])
        for thing in ODD_VALUES + [THREE]:
            refused(self, BadMap(None), image, thing, None)
            refused(self, BadMap(None), broken_map, thing)
            for function in (map_behind, undo_each_other):
                refused(self, BadMap(None), function, thing, one)
                refused(self, BadMap(None), function, one, thing)
        for word in [None, [], (2,), (True,), "0", (0,) * 201]:
            refused(self, BadWord("x"), image, one, word)


if __name__ == "__main__":
    unittest.main()
