"""Points [70] and [90], the first paragraphs: products of groups, names of letters."""

import unittest

from gatewords.errors import BadBack, BadGroup, BadWord, TooMany
from gatewords.groups import Group
from gatewords.lettertexts import letter_names
from gatewords.products import direct_product, free_product, from_syllables, halves, syllables
from tests.helpers import ODD_VALUES, refused, rows

ONE = Group((1, 0), [((0, 0, 0), ())])
OTHER = Group((0, 1), [((0, 1, 0), (1, 0, 1))])
TEN = Group(tuple(range(10)), [])


class Products(unittest.TestCase):

    def test_of_the_document(self):
        product = direct_product(ONE, OTHER)
        self.assertEqual(product, Group((1, 0, 2, 3), [((0, 0, 0), ()), ((2, 3, 2), (3, 2, 3)),
                                                       ((2, 0), (0, 2)), ((3, 0), (0, 3))]))
        self.assertEqual(halves(ONE, OTHER, (2, 0, 3)), ((0,), (0, 1)))
        self.assertEqual(syllables(ONE, OTHER, (2, 0, 3)), [(1, (0,)), (0, (0,)), (1, (1,))])

    def test_free_product(self):
        self.assertEqual(free_product(one=ONE, other=OTHER),
                         Group((1, 0, 2, 3), [((0, 0, 0), ()), ((2, 3, 2), (3, 2, 3))]))
        self.assertEqual(free_product(OTHER, ONE),
                         Group((0, 1, 3, 2), [((0, 1, 0), (1, 0, 1)), ((2, 2, 2), ())]))

    def test_sequence_of_further_rules(self):
        product = direct_product(OTHER, OTHER)
        self.assertEqual(product.rules[2:], (((2, 0), (0, 2)), ((3, 0), (0, 3)), ((2, 1), (1, 2)), ((3, 1), (1, 3))))
        product = direct_product(Group((2, 1, 0), []), Group((1, 0, 2), []))
        self.assertEqual(product.rules, (((3, 0), (0, 3)), ((5, 0), (0, 5)), ((3, 1), (1, 3)), ((5, 1), (1, 5))))

    def test_limits(self):
        self.assertEqual(len(free_product(TEN, ONE).back), 12)
        eleven = Group(tuple(range(11)), [])
        for function in (free_product, direct_product):
            refused(self, TooMany(12), function, eleven, ONE)
        for function in (halves, syllables, from_syllables):
            refused(self, TooMany(12), function, ONE, eleven, None)
        some = Group((1, 0), [((), ())] * 20)
        self.assertEqual(len(free_product(some, some).rules), 40)
        more = Group((1, 0), [((), ())] * 21)
        refused(self, TooMany(40), free_product, some, more)
        nineteen = Group((1, 0), [((), ())] * 19)
        self.assertEqual(len(direct_product(some, nineteen).rules), 40)
        refused(self, TooMany(40), direct_product, some, some)
        refused(self, TooMany(12), direct_product, Group(tuple(range(11)), [((), ())] * 40), some)
        six = Group(tuple(range(6)), [])
        self.assertEqual(len(direct_product(six, six).rules), 36)
        refused(self, TooMany(40), direct_product, six, Group(tuple(range(6)), [((), ())] * 5))

    def test_bad_groups(self):
        for thing in ODD_VALUES:
            for function in (free_product, direct_product):
                refused(self, BadGroup(None), function, thing, ONE)
                refused(self, BadGroup(None), function, ONE, thing)
            for function in (halves, syllables, from_syllables):
                refused(self, BadGroup(None), function, thing, None, None)
                refused(self, BadGroup(None), function, ONE, thing, None)


class Words(unittest.TestCase):

    def test_there_and_back(self):
        for word in rows(4, 5):
            parts = syllables(ONE, OTHER, word)
            self.assertEqual(from_syllables(ONE, OTHER, parts), word)
            self.assertTrue(all(part for side, part in parts))
            self.assertTrue(all(a[0] != b[0] for a, b in zip(parts, parts[1:])))
            left, right = halves(ONE, OTHER, word)
            self.assertEqual(left, tuple(k for k in word if k < 2))
            self.assertEqual(right, tuple(k - 2 for k in word if k > 1))

    def test_some(self):
        self.assertEqual(syllables(one=ONE, other=OTHER, word=()), [])
        self.assertEqual(halves(one=ONE, other=OTHER, word=(3,) * 500), ((), (1,) * 500))
        parts = [(0, ()), (0, (0, 1)), (0, (1,)), (1, ()), (1, (1,) * 300)]
        self.assertEqual(from_syllables(one=ONE, other=OTHER, parts=parts), (0, 1, 1) + (3,) * 300)
        self.assertEqual(from_syllables(ONE, OTHER, tuple(parts)), (0, 1, 1) + (3,) * 300)
        self.assertEqual(from_syllables(ONE, OTHER, []), ())
        self.assertEqual(from_syllables(TEN, ONE, [(0, (9,)), (1, (1,))]), (9, 11))
        refused(self, BadWord("x"), from_syllables, TEN, ONE, [(1, (9,))])
        refused(self, BadWord("x"), from_syllables, ONE, TEN, [(0, (9,))])

    def test_bad_words(self):
        for word in [None, [0], (4,), (-1,), (True,), "01"]:
            for function in (halves, syllables):
                refused(self, BadWord("x"), function, ONE, OTHER, word)
        for parts in [None, 3, "ab", [(2, ())], [(True, ())], [(0, (2,))], [(1, (2,))], [(0, [0])], [[0, (0,)]],
                      [(0, (0,), 1)], [(0,)], {0: (0,)}, [None], [(0, (True,))], [("0", ())]]:
            refused(self, BadWord("x"), from_syllables, ONE, OTHER, parts)


class Names(unittest.TestCase):

    def test_names(self):
        self.assertEqual(letter_names((1, 0, 2)), "aAb")
        self.assertEqual(letter_names((0, 1)), "ab")
        self.assertEqual(letter_names(back=(1, 0)), "aA")
        self.assertEqual(letter_names((2, 3, 0, 1)), "abAB")
        self.assertEqual(letter_names((3, 2, 1, 0)), "abBA")
        self.assertEqual(letter_names((0, 3, 2, 1)), "abcB")
        self.assertEqual(letter_names(tuple(range(12))), "abcdefghijkl")
        self.assertEqual(letter_names(tuple(range(12))[::-1]), "abcdefFEDCBA")

    def test_bad_backs(self):
        for thing in [None, [1, 0], (0,), (1, 1), (True, False), "aA"]:
            refused(self, BadBack("x"), letter_names, thing)


if __name__ == "__main__":
    unittest.main()
