"""Point [11]: groups, steps, roads and near words."""

import unittest

from gatewords.errors import BadGroup, BadNumber, BadRoad, BadStep, BadWord, TooMany
from gatewords.groups import Group, is_road, near_words, road_back, step_done
from gatewords.letters import rank
from gatewords.machines import Machine
from tests.helpers import ODD_VALUES, refused, rows

THREE = Group((1, 0), [((0, 0, 0), ())])
MIXED = Group((1, 0, 2), [((0, 2), (2, 0)), ((2, 2, 2), (0,)), ((1, 1, 1), ())])


class Groups(unittest.TestCase):

    def test_attributes(self):
        rules = [((0, 0), ()), ((0,), (1,))]
        group = Group(back=(1, 0), rules=rules)
        self.assertEqual(group.back, (1, 0))
        self.assertEqual(group.rules, (((0, 0), ()), ((0,), (1,))))
        self.assertIsInstance(group.rules, tuple)
        rules.append(((), ()))
        self.assertEqual(len(group.rules), 2)

    def test_equal(self):
        self.assertEqual(Group((1, 0), []), Group((1, 0), ()))
        self.assertNotEqual(Group((1, 0), []), Group((0, 1), []))
        self.assertNotEqual(Group((1, 0), [((0,), ())]), Group((1, 0), [((), (0,))]))
        self.assertNotEqual(Group((1, 0), [((0,), ()), ((1,), ())]), Group((1, 0), [((1,), ()), ((0,), ())]))
        for thing in ODD_VALUES + [((1, 0), ()), Machine(2, [[0, 0]], [])]:
            self.assertFalse(THREE == thing)
            self.assertTrue(THREE != thing)

    def test_limits(self):
        side = (0,) * 40
        group = Group((1, 0), [(side, side)] * 40)
        self.assertEqual(len(group.rules), 40)
        refused(self, BadGroup("rules"), Group, (1, 0), [(side, side)] * 41)
        refused(self, BadGroup("rules"), Group, (1, 0), [(side + (0,), side)])
        refused(self, BadGroup("rules"), Group, (1, 0), [(side, side + (0,))])
        self.assertEqual(len(Group(tuple(range(12)), []).back), 12)
        refused(self, BadGroup("back"), Group, tuple(range(13)), [])
        refused(self, BadGroup("back"), Group, (0,), [])

    def test_wrong_parts(self):
        for back in [[1, 0], (0, True), None, (1, 1), ()]:
            refused(self, BadGroup("back"), Group, back, None)
        for rules in [None, {}, "ab", [((0,),)], [[(0,), ()]], [((0,), (), ())], [((2,), ())], [([0], ())],
                      [((True,), ())], [((0.0,), ())], [None], [((), None)]]:
            refused(self, BadGroup("rules"), Group, (1, 0), rules)


class Steps(unittest.TestCase):

    def test_step_done(self):
        self.assertEqual(step_done(THREE, (1, 0, 0, 0), (1, (0, 0, 0), ())), (1,))
        self.assertEqual(step_done(THREE, (1,), (1, (), (0, 0, 0))), (1, 0, 0, 0))
        self.assertEqual(step_done(THREE, (0, 1), (0, (0, 1), ())), ())
        self.assertEqual(step_done(THREE, (0,), (0, (), (1, 0))), (1, 0, 0))
        self.assertEqual(step_done(MIXED, (2, 2, 2), (0, (2, 2, 2), (0,))), (0,))
        self.assertEqual(step_done(MIXED, (2,), (1, (), (2, 2))), (2, 2, 2))
        long = (0,) * 300
        self.assertEqual(step_done(group=THREE, word=long, step=(300, (), (0, 1))), long + (0, 1))

    def test_no_steps(self):
        for step in [None, (), (0,), (0, ()), [0, (), (0, 1)], (0, (), (0, 0)), (0, (0, 0), ()), (0, (), ()),
                     (0, (0, 0, 0), (), 0), (True, (), (0, 1)), (False, (), (0, 1)), (-1, (), (0, 1)),
                     (5, (), (0, 1)), (0, (0, 1), ()), (1, (0, 0, 0), ()), (0, [], (0, 1)), (0, (), [0, 1]),
                     (0.0, (), (0, 1)), (0, (), (False, True)), (0, (0, 0, False), ()), (None, (), (0, 1)),
                     (0, (), (0.0, 1.0)), (0, (0, 0, 0, 0), (0,)), (2, (0, 0, 0), ())]:
            refused(self, BadStep("x"), step_done, THREE, (0, 0, 0, 0)[:3] + (1,), step)
        refused(self, BadStep("x"), step_done, Group((1, 0), []), (0,) * 3, (0, (0,) * 3, ()))
        for step in ODD_VALUES:
            refused(self, BadStep("x"), step_done, THREE, (0, 0, 0), step)

    def test_empty_rules_make_steps(self):
        group = Group((1, 0), [((), ())])
        self.assertEqual(step_done(group, (0,), (1, (), ())), (0,))
        self.assertTrue(is_road(group, (0,), (0,), [(0, (), ()), (1, (), ())]))

    def test_errors_in_their_sequence(self):
        refused(self, BadGroup(None), step_done, None, None, None)
        refused(self, BadWord("x"), step_done, THREE, [0], None)
        refused(self, BadWord("x"), step_done, THREE, (2,), None)
        refused(self, BadWord("x"), step_done, THREE, (True,), None)
        refused(self, BadGroup(None), is_road, (1, 0), (), (), [])
        refused(self, BadWord("x"), is_road, THREE, (2,), (), [])
        refused(self, BadWord("x"), is_road, THREE, (), [0], [])
        refused(self, BadGroup(None), road_back, 3, (), [])
        refused(self, BadWord("x"), road_back, THREE, None, None)


class Roads(unittest.TestCase):

    def test_the_road_of_the_document(self):
        road = [(2, (), (0, 0, 0)), (1, (1, 0), ()), (0, (1, 0), ())]
        self.assertIs(is_road(THREE, (1, 1), (0,), road), True)
        self.assertIs(is_road(THREE, (1, 1), (0,), tuple(road)), True)
        self.assertIs(is_road(THREE, (1, 1), (1,), road), False)
        self.assertIs(is_road(THREE, (1,), (0,), road), False)
        self.assertIs(is_road(THREE, (1, 1), (0,), road[:2]), False)
        self.assertIs(is_road(THREE, (1, 1), (0,), road[1:]), False)

    def test_no_roads(self):
        self.assertIs(is_road(THREE, (), (), []), True)
        self.assertIs(is_road(THREE, (0,), (), []), False)
        self.assertIs(is_road(THREE, (0,) * 500, (0,) * 497, [(300, (0, 0, 0), ())]), True)
        for thing in ODD_VALUES:
            self.assertIs(is_road(THREE, (0,), (0,), thing), thing in ((), []) and thing is not False, repr(thing))
        for thing in [[None], [(0, (), (0, 1), 0)], [[0, (), (0, 1)]], [(True, (), (0, 1)), (1, (0, 1), ())],
                      {0: (0, (), (0, 1))}]:
            self.assertIs(is_road(THREE, (0,), (0,), thing), False)

    def test_road_back(self):
        road = [(2, (), (0, 0, 0)), (1, (1, 0), ()), (0, (1, 0), ())]
        back = road_back(THREE, (1, 1), road)
        self.assertEqual(back, [(0, (), (1, 0)), (1, (), (1, 0)), (2, (0, 0, 0), ())])
        self.assertIs(is_road(THREE, (0,), (1, 1), back), True)
        self.assertEqual(road_back(THREE, (0,), back), road)
        self.assertEqual(road, [(2, (), (0, 0, 0)), (1, (1, 0), ()), (0, (1, 0), ())])
        self.assertEqual(road_back(group=THREE, one=(), road=()), [])
        self.assertIsInstance(road_back(THREE, (), ()), list)
        given = []
        self.assertIsNot(road_back(THREE, (), given), given)

    def test_bad_roads(self):
        for road in [None, 3, [None], [(0, (0, 0, 0), ())], [(0, (), (0, 1)), (9, (), (0, 1))], "ab", {}]:
            refused(self, BadRoad("x"), road_back, THREE, (1, 1), road)


class NearWords(unittest.TestCase):

    def plain(self, group, word, most):
        """The same, by going through all words again and again."""
        found = {word}
        grown = True
        while grown:
            grown = False
            for one in list(found):
                for out, put in self.swaps(group):
                    for k in range(len(one) - len(out) + 1):
                        new = one[:k] + put + one[k + len(out):]
                        if one[k:k + len(out)] == out and len(new) <= most and new not in found:
                            found.add(new)
                            grown = True
        return sorted(found, key=rank)

    def swaps(self, group):
        both = list(group.rules) + [((k, group.back[k]), ()) for k in range(len(group.back))]
        return both + [(b, a) for a, b in both]

    def test_as_by_hand(self):
        for group in (THREE, MIXED, Group((0, 1), [((0, 1, 0), (1, 0, 1))]), Group((1, 0), [])):
            for most in range(4):
                for word in rows(len(group.back), most):
                    self.assertEqual(near_words(group, word, most), self.plain(group, word, most))

    def test_small(self):
        self.assertEqual(near_words(THREE, (), 0), [()])
        self.assertEqual(near_words(THREE, (), 2), [(), (0, 1), (1, 0)])
        # Only behind three letters 0 are they alike with none.
        self.assertEqual(near_words(THREE, (1, 1), 2), [(1, 1)])
        self.assertEqual(near_words(group=THREE, word=(1, 1), most=5)[0], (0,))

    def test_errors(self):
        refused(self, BadGroup(None), near_words, None, None, None)
        refused(self, BadWord("x"), near_words, THREE, [0], None)
        refused(self, BadWord("x"), near_words, THREE, (0,) * 201, 9)
        for most in (-1, 9, True, None, "2", 2.0):
            refused(self, BadNumber("most"), near_words, THREE, (0,) * 200, most)
        refused(self, BadWord("x"), near_words, THREE, (0,) * 9, 8)
        refused(self, BadWord("x"), near_words, THREE, (0,), 0)

    def test_too_many(self):
        group = Group(tuple(range(12)), [])
        refused(self, TooMany(3000), near_words, group, (), 8)
        free = Group(tuple(range(12)), [((k,), (0,)) for k in range(1, 12)])
        self.assertEqual(len(near_words(free, (0, 0), 2)), 1 + 144)
        refused(self, TooMany(3000), near_words, free, (0, 0), 8)

    def test_just_as_many_as_let(self):
        # Behind each 0 stands one of ten letters, behind 1 one of three, and no
        # two letters side by side undo one another: 3000 words of 8 letters.
        back = (1, 0, 3, 2, 5, 4, 7, 6, 9, 8, 11, 10)
        rules = [((0, k), (0, k + 1)) for k in range(2, 11)] + [((1, 1), (1, 2)), ((1, 2), (1, 3))]
        word = (0, 2, 0, 2, 0, 2, 1, 1)
        found = near_words(Group(back, rules), word, 8)
        self.assertEqual(len(found), 3000)
        self.assertEqual(found, sorted(set(found), key=rank))
        refused(self, TooMany(3000), near_words, Group(back, rules + [(word, (4,) * 8)]), word, 8)

    def test_letters_that_go(self):
        gone = Group(tuple(range(12)), [((k,), ()) for k in range(12)])
        self.assertEqual(len(near_words(gone, (), 3)), 1 + 12 + 144 + 1728)
        refused(self, TooMany(3000), near_words, gone, (), 4)
        two = Group((0, 1), [((0,), ()), ((1,), ())])
        self.assertEqual(near_words(two, (), 8), rows(2, 8))


if __name__ == "__main__":
    unittest.main()
