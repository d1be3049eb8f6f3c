"""Point [14]: claims."""

import unittest

from gatewords.claims import Claim, says
from gatewords.errors import BadClaim, BadNumber, BadWord
from gatewords.groups import Group
from gatewords.machines import Machine
from tests.examples import THREE, endless_claim, three_claim
from tests.helpers import ODD_VALUES, refused, rows

WORDS = Machine(2, [[0, 0]], [0])
NEAR = Machine(9, [[0] * 9], [0])


class Claims(unittest.TestCase):

    def test_attributes(self):
        nears = [NEAR, NEAR, NEAR]
        claim = Claim(group=THREE, words=WORDS, nears=nears)
        nears.pop()
        self.assertEqual(claim.nears, (NEAR, NEAR, NEAR))
        self.assertIsInstance(claim.nears, tuple)
        self.assertIs(claim.group, THREE)
        self.assertIs(claim.words, WORDS)

    def test_equal(self):
        claim = Claim(THREE, WORDS, [NEAR] * 3)
        other_near = Machine(9, [[0] * 9], [])
        self.assertEqual(claim, Claim(Group((1, 0), [((0, 0, 0), ())]), Machine(2, [[0, 0]], [0]), (NEAR,) * 3))
        for other in [Claim(Group((1, 0), []), WORDS, [NEAR] * 3), three_claim(), THREE,
                      Claim(THREE, Machine(2, [[0, 0]], []), [NEAR] * 3),
                      Claim(THREE, WORDS, [NEAR, NEAR, other_near])] + ODD_VALUES:
            self.assertFalse(claim == other)
            self.assertTrue(claim != other)

    def test_wrong_parts(self):
        for group in [None, 3, ((1, 0), ())]:
            refused(self, BadClaim("group"), Claim, group, None, None)
        for words in [None, NEAR, Machine(3, [[0, 0, 0]], [0]), (2, (), ())]:
            refused(self, BadClaim("words"), Claim, THREE, words, None)
        for nears in [None, [], [NEAR] * 2, [NEAR] * 4, [NEAR, NEAR, WORDS], [NEAR, NEAR, None], NEAR,
                      {0: NEAR, 1: NEAR, 2: NEAR}, "abc"]:
            refused(self, BadClaim("nears"), Claim, THREE, WORDS, nears)

    def test_most_letters(self):
        back = tuple(range(12))
        near = Machine(169, [[None] * 169], [])
        claim = Claim(Group(back, []), Machine(12, [[0] * 12], [0]), [near] * 13)
        self.assertEqual(len(claim.nears), 13)
        self.assertIs(says(claim, 11, (), ()), False)
        refused(self, BadNumber("letter"), says, claim, 12, (), ())


class Says(unittest.TestCase):

    def test_three(self):
        claim = three_claim()
        normals = [(), (0,), (1,)]
        for one in rows(2, 3):
            for other in rows(2, 3):
                self.assertIs(says(claim, None, one, other), one == other and one in normals)
                for letter in (0, 1):
                    led = one in normals and other == normals[(normals.index(one) + 1 + letter) % 3]
                    self.assertIs(says(claim, letter, one, other), led)

    def test_endless(self):
        claim = endless_claim()
        self.assertIs(says(claim, 0, (0,) * 300, (0,) * 301), True)
        self.assertIs(says(claim, 0, (1,) * 300, (1,) * 299), True)
        self.assertIs(says(claim, 1, (0,) * 300, (0,) * 301), False)
        self.assertIs(says(claim=claim, letter=1, one=(0,), other=()), True)

    def test_errors(self):
        claim = three_claim()
        for thing in ODD_VALUES:
            refused(self, BadClaim(None), says, thing, 5, None, None)
        for letter in [2, -1, True, "0", 0.0, (0,)]:
            refused(self, BadNumber("letter"), says, claim, letter, None, None)
        for word in [None, [0], (2,), (True,)]:
            refused(self, BadWord("x"), says, claim, None, word, ())
            refused(self, BadWord("x"), says, claim, 0, (), word)


if __name__ == "__main__":
    unittest.main()
