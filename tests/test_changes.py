"""Point [80]: changes."""

import unittest

from gatewords.abelian import is_alike_abelian
from gatewords.changes import changed, changed_word, is_change
from gatewords.errors import BadChange, BadGroup, BadWord, NotLet
from gatewords.groups import Group, near_words
from gatewords.letters import undone
from tests.helpers import ODD_VALUES, refused, rows

THREE = Group((1, 0), [((0, 0, 0), ())])
FOUR = Group((1, 0, 3, 2), [((0, 0, 0), ()), ((2,), (0, 0)), ((2, 3, 0), (3,))])
BIG = Group(tuple(range(12)), [])


class IsChange(unittest.TestCase):

    def test_changes(self):
        for thing in [("put", (), ()), ("put", (11,) * 40, (0,)), ("letter", ()), ("letter", (11,) * 40),
                      ("drop", 0), ("drop", 39), ("unletter",)]:
            self.assertIs(is_change(thing), True)
        self.assertIs(is_change(thing=("unletter",)), True)

    def test_no_changes(self):
        for thing in ODD_VALUES + [["put", (), ()], ("put", ()), ("put", (), (), ()), ("put", [], ()),
                                   ("put", (12,), ()), ("put", (), (-1,)), ("put", (0,) * 41, ()),
                                   ("put", (), (0,) * 41), ("put", (True,), ()), ("letter",), ("letter", [0]),
                                   ("letter", (12,)), ("letter", (0,) * 41), ("letter", (), ()), ("drop",),
                                   ("drop", 40), ("drop", -1), ("drop", True), ("drop", 1.0), ("drop", 0, 0),
                                   ("unletter", ()), ("Put", (), ()), (b"put", (), ()), ((), (), ()), "unletter",
                                   ("unletter", None), (["put"], (), ()), ("put", (0.0,), ()), ("",)]:
            self.assertIs(is_change(thing), False, repr(thing))


class Changed(unittest.TestCase):

    def test_of_the_document(self):
        group = changed(THREE, ("letter", (0, 0)))
        self.assertEqual(group, Group((1, 0, 3, 2), [((0, 0, 0), ()), ((2,), (0, 0))]))
        self.assertEqual(changed(group, ("unletter",)), THREE)

    def test_put(self):
        self.assertEqual(changed(group=THREE, change=("put", (0,), (1,))),
                         Group((1, 0), [((0, 0, 0), ()), ((0,), (1,))]))
        refused(self, NotLet("word"), changed, THREE, ("put", (2,), ()))
        refused(self, NotLet("word"), changed, THREE, ("put", (), (11,)))
        full = Group((1, 0), [((), ())] * 40)
        refused(self, NotLet("many"), changed, full, ("put", (), ()))
        refused(self, NotLet("word"), changed, full, ("put", (2,), ()))
        self.assertEqual(len(changed(Group((1, 0), [((), ())] * 39), ("put", (), ())).rules), 40)

    def test_drop(self):
        self.assertEqual(changed(FOUR, ("drop", 1)), Group(FOUR.back, [FOUR.rules[0], FOUR.rules[2]]))
        refused(self, NotLet("place"), changed, FOUR, ("drop", 3))
        refused(self, NotLet("place"), changed, BIG, ("drop", 0))

    def test_letter(self):
        ten = Group(tuple(range(10)), [])
        self.assertEqual(changed(ten, ("letter", (9,))),
                         Group(tuple(range(10)) + (11, 10), [((10,), (9,))]))
        refused(self, NotLet("letters"), changed, Group(tuple(range(11)), [((), ())] * 40), ("letter", (11,)))
        refused(self, NotLet("letters"), changed, BIG, ("letter", ()))
        full = Group((1, 0), [((), ())] * 40)
        refused(self, NotLet("word"), changed, full, ("letter", (2,)))
        refused(self, NotLet("many"), changed, full, ("letter", (1,)))

    def test_unletter(self):
        # 2 is read as (0, 0), 3 as (1, 1).
        self.assertEqual(changed(FOUR, ("unletter",)),
                         Group((1, 0), [((0, 0, 0), ()), ((0, 0, 1, 1, 0), (1, 1))]))
        for group in [THREE, Group((1, 0, 2), [((1,), ())]), Group((1, 0, 2, 3), [((2,), ())]),
                      Group((3, 2, 1, 0), [((2,), ())]), Group((2, 3, 0, 1), [((2,), ())])]:
            refused(self, NotLet("letters"), changed, group, ("unletter",))
        for rules in [[], [((3,), ())], [((), (2,))], [((2,), (2,))], [((2,), (0, 3))], [((2, 2), (0,))]]:
            refused(self, NotLet("rule"), changed, Group((1, 0, 3, 2), rules), ("unletter",))

    def test_the_first_fitting_rule_goes(self):
        group = Group((1, 0, 3, 2), [((2,), (3,)), ((2,), (0,)), ((2,), (1, 1))])
        self.assertEqual(changed(group, ("unletter",)), Group((1, 0), [((0,), (1,)), ((0,), (1, 1))]))

    def test_sides_that_grow(self):
        back = (1, 0, 3, 2)
        for side, many in [((2,), 40), ((2, 2), 20), ((3, 2), 20)]:
            fits = Group(back, [((2,), (0,) * many), (side, ())])
            self.assertEqual(len(changed(fits, ("unletter",)).rules[0][0]), 40)
            grown = Group(back, [((2,), (0,) * many), (side + (1,), ())])
            refused(self, NotLet("many"), changed, grown, ("unletter",))
            grown = Group(back, [((2,), (0,) * many), ((), side + (0,))])
            refused(self, NotLet("many"), changed, grown, ("unletter",))

    def test_errors(self):
        for thing in ODD_VALUES:
            refused(self, BadGroup(None), changed, thing, None)
            refused(self, BadChange("x"), changed, THREE, thing)
        refused(self, BadChange("x"), changed, THREE, ("put", (12,), (2,)))

    def test_group_stays(self):
        for word in rows(2, 2):
            group = changed(THREE, ("letter", word))
            self.assertEqual(changed(group, ("unletter",)), THREE)
        self.assertEqual(THREE, Group((1, 0), [((0, 0, 0), ())]))


class ChangedWord(unittest.TestCase):

    def test_words(self):
        self.assertEqual(changed_word(FOUR, ("unletter",), (2, 1, 3, 0)), (0, 0, 1, 1, 1, 0))
        self.assertEqual(changed_word(FOUR, ("unletter",), (2,) * 300), (0,) * 600)
        for change in [("put", (0,), ()), ("drop", 0), ("letter", (0, 0))]:
            self.assertEqual(changed_word(group=FOUR, change=change, word=(2, 3) * 200), (2, 3) * 200)

    def test_undone_words(self):
        group = Group((1, 0, 2, 4, 3), [((3,), (0, 2, 2, 0))])
        self.assertEqual(changed_word(group, ("unletter",), (4,)), (1, 2, 2, 1))
        for word in rows(5, 2):
            self.assertEqual(changed_word(group, ("unletter",), undone(group.back, word)),
                             undone((1, 0, 2), changed_word(group, ("unletter",), word)))

    def test_what_is_alike_stays_alike(self):
        less = changed(FOUR, ("unletter",))
        for word in near_words(FOUR, (), 5):
            new = changed_word(FOUR, ("unletter",), word)
            self.assertIs(is_alike_abelian(less, new, ()), True)
            if len(new) < 4:
                self.assertIn((), near_words(less, new, 8))

    def test_errors(self):
        refused(self, BadGroup(None), changed_word, None, None, None)
        refused(self, BadChange("x"), changed_word, THREE, ("drop",), None)
        refused(self, NotLet("place"), changed_word, THREE, ("drop", 1), None)
        refused(self, NotLet("letters"), changed_word, THREE, ("unletter",), None)
        for word in [None, [0], (2,), (True,)]:
            refused(self, BadWord("x"), changed_word, THREE, ("drop", 0), word)
        refused(self, BadWord("x"), changed_word, THREE, ("letter", ()), (2,))


if __name__ == "__main__":
    unittest.main()
