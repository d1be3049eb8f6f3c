"""Point [10]: backs, words, what is free and what undoes."""

import itertools
import unittest

from gatewords.errors import BadBack, BadWord
from gatewords.letters import free, is_back, is_word, least_of, undone
from tests.helpers import ODD_VALUES, refused, rows

NO_BACKS = [(), (0,), (1, 2), (1, 0, 1), (1, 2, 0), (0, True), (True, False), [1, 0], (1.0, 0.0), (-1, -2),
            (1, 0, None), "10", (0, 2), tuple(range(13)), (-1, 0), (1, 0, 3), ("1", "0"), ((1,), (0,))]


class Backs(unittest.TestCase):

    def test_backs(self):
        for back in [(0, 1), (1, 0), (1, 0, 2), (2, 1, 0), tuple(range(12)), tuple(range(12))[::-1]]:
            self.assertIs(is_back(back), True)

    def test_no_backs(self):
        for thing in NO_BACKS:
            self.assertIs(is_back(thing), False, thing)
        for thing in ODD_VALUES:
            self.assertIs(is_back(thing), isinstance(thing, tuple) and thing in [(0, 1), (1, 0)]
                          and all(type(k) is int for k in thing), repr(thing))

    def test_all_small_ones(self):
        for back in itertools.product(range(-1, 4), repeat=3):
            fits = all(0 <= k < 3 for k in back) and all(back[back[k]] == k for k in range(3))
            self.assertIs(is_back(back), fits)


class Words(unittest.TestCase):

    def test_is_word(self):
        self.assertIs(is_word((1, 0), ()), True)
        self.assertIs(is_word((1, 0), (0, 1) * 100), True)
        self.assertIs(is_word((1, 0), (0, 1) * 100 + (0,)), False)
        for thing in [[0], (2,), (-1,), (True,), (0.0,), "01", None, (None,), ([],)]:
            self.assertIs(is_word((1, 0), thing), False)
        for thing in ODD_VALUES:
            self.assertIn(is_word((1, 0), thing), (True, False))

    def test_bad_backs(self):
        for thing in NO_BACKS:
            for function in (is_word, free, undone):
                refused(self, BadBack("x"), function, thing, "no word")

    def test_bad_words(self):
        for function in (free, undone):
            for thing in [[0], (2,), (True,), None, "", (0,) * 201]:
                refused(self, BadWord("x"), function, (1, 0), thing)
            self.assertEqual(len(function((0, 1), (0, 1) * 100)), 200)

    def test_free(self):
        back = (1, 0, 2)
        self.assertEqual(free(back, (0, 2, 2, 1, 0)), (0,))
        self.assertEqual(free(back, (2, 2)), ())
        self.assertEqual(free((0, 1), (0, 1) * 100), (0, 1) * 100)
        for word in rows(3, 5):
            left = free(back, word)
            self.assertFalse(any(back[a] == b for a, b in zip(left, left[1:])))
            # Taken out in whatever sequence, the same is left.
            for k in range(len(word) - 1):
                if back[word[k]] == word[k + 1]:
                    self.assertEqual(free(back, word[:k] + word[k + 2:]), left)

    def test_undone(self):
        back = (1, 0, 2)
        self.assertEqual(undone(back, (0, 0, 2)), (2, 1, 1))
        for word in rows(3, 4):
            self.assertEqual(undone(back, undone(back, word)), word)
            self.assertEqual(free(back, word + undone(back, word)), ())

    def test_named_parameters(self):
        self.assertEqual(undone(word=(0,), back=(1, 0)), (1,))
        self.assertEqual(free(word=(0, 1), back=(1, 0)), ())
        self.assertIs(is_word(thing=(), back=(1, 0)), True)
        self.assertIs(is_back(thing=(1, 0)), True)

    def test_least_of(self):
        self.assertEqual(least_of([(2,), (0, 0), (1,)]), (1,))
        self.assertEqual(least_of([(0, 0), (2,)]), (2,))
        self.assertEqual(least_of(words=((1, 0), (0, 5))), (0, 5))
        self.assertEqual(least_of([(3,), (), (0,)]), ())
        words = [(2,), (0, 0), (1,)]
        least_of(words)
        self.assertEqual(words, [(2,), (0, 0), (1,)])


if __name__ == "__main__":
    unittest.main()
