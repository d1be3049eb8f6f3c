"""Point [83]: live groups."""

import random
import unittest

from gatewords.changes import changed
from gatewords.directclaims import claim_direct
from gatewords.distances import order_of
from gatewords.errors import BadDeed, BadGroup, BadJudged, BadQuestion, NotLet
from gatewords.groups import Group
from gatewords.judgeds import Judged
from gatewords.keeping import kept, kept_by
from gatewords.lives import Live, answered, is_deed, is_question
from gatewords.normals import is_alike, normal
from gatewords.roadmakers import road_between
from gatewords.rowgrowth import is_finite
from tests.examples import (cyclic_claim, d4_claim, endless_claim, s3_claim, three_claim, told_judged, two_claim,
                            with_rules)
from tests.helpers import ODD_VALUES, refused

NUMBER = 10 ** 9


def machine_value(machine):
    return (machine.letters, machine.ways, machine.ends)


def claim_deed(judged):
    claim = judged.claim
    return ("claim", machine_value(claim.words), tuple(machine_value(near) for near in claim.nears), judged.paper)


def plain_answer(judged, question):
    if judged is None:
        return "open"
    many = len(judged.claim.group.back)
    if any(letter >= many for part in question[1:] if isinstance(part, tuple) for letter in part):
        return "lacks"
    if question[0] == "alike":
        return is_alike(judged.steady, question[1], question[2])
    if question[0] == "normal":
        return normal(judged.steady, question[1])
    if question[0] == "finite":
        return is_finite(judged.claim.words)
    return order_of(judged.steady, question[1], question[2]) or "none"


QUESTIONS = [("alike", (0, 0), (1,)), ("alike", (2, 0), (0, 2)), ("normal", (0, 0, 0, 1)), ("normal", (2, 2)),
             ("order", (0,), 200), ("order", (0, 2), 12), ("finite",), ("alike", (), ()), ("normal", (4,))]


class Kinds(unittest.TestCase):

    def test_questions(self):
        right = QUESTIONS + [("alike", (11,) * 200, ()), ("normal", ()), ("order", (), 1), ("order", (3,), 200)]
        wrong = [("alike", ()), ("alike", (), (), ()), ("alike", [], ()), ("alike", (12,), ()), ("alike", (), (True,)),
                 ("alike", (), (0,) * 201), ["alike", (), ()], ("normal",), ("normal", None), ("normal", (-1,)),
                 ("order", (), 0), ("order", (), 201), ("order", (), True), ("order", ()), ("order", 1, ()), ("finite", ()),
                 ("Finite",), (b"finite",), "finite", ("order", (0,) * 201, 1)]
        for thing in right:
            self.assertIs(is_question(thing=thing), True)
        for thing in ODD_VALUES + wrong:
            self.assertIs(is_question(thing), False, repr(thing))

    def test_deeds(self):
        empty = (0, (), ())
        right = [("put", (0,), (11,)), ("drop", 39), ("letter", ()), ("unletter",), ("ask", ("finite",)), ("unask", 0),
                 ("unask", NUMBER), ("swap", 0, ()), ("swap", 39, ((NUMBER, (0,) * 300, ()),)), ("claim", empty, (), ()),
                 ("claim", (NUMBER, ((None, NUMBER), ()), (5, 5, NUMBER)), (empty, empty), ((), ((0, (), (11,)),))),
                 claim_deed(told_judged(three_claim()))]
        wrong = [("put", (0,), (12,)), ("put", (0,)), ("drop", 40), ("drop", True), ("ask", ("finite", 1)), ("ask",),
                 ("ask", None), ("unask", -1), ("unask", NUMBER + 1), ("unask", True), ("unask",), ("unask", "0"),
                 ("swap", 40, ()), ("swap", -1, ()), ("swap", 0), ("swap", 0, []), ("swap", 0, ((0, (), ()), ())),
                 ("swap", 0, ((NUMBER + 1, (), ()),)), ("swap", 0, ((0, (12,), ()),)), ("swap", 0, ((0, [], ()),)),
                 ("swap", 0, ([0, (), ()],)), ("swap", 0, ((True, (), ()),)), ("swap", False, ()),
                 ("claim", empty, ()), ("claim", empty, [], ()), ("claim", empty, (), []), ("claim", [0, (), ()], (), ()),
                 ("claim", (NUMBER + 1, (), ()), (), ()), ("claim", (True, (), ()), (), ()), ("claim", (None, (), ()), (), ()),
                 ("claim", (0, ((True,),), ()), (), ()), ("claim", (0, ((NUMBER + 1,),), ()), (), ()),
                 ("claim", (0, ((-1,),), ()), (), ()), ("claim", (0, ([],), ()), (), ()), ("claim", (0, [], ()), (), ()),
                 ("claim", (0, (), (None,)), (), ()), ("claim", (0, (), [0]), (), ()), ("claim", (0, (), (NUMBER + 1,)), (), ()),
                 ("claim", empty, ((0, ()),), ()), ("claim", empty, (), (((0, ()),),)), ("claim", empty, (), (((0, (), (12,)),),)),
                 ("claim", empty, (), ([],)), ["unletter"], "unletter", ("undo",), ("Ask", ("finite",))]
        for thing in right:
            self.assertIs(is_deed(thing=thing), True, repr(thing))
        for thing in ODD_VALUES + wrong:
            self.assertIs(is_deed(thing), False, repr(thing))

    def test_answers(self):
        judgeds = [None] + [told_judged(claim) for claim in (
            three_claim(), two_claim(), endless_claim(), s3_claim(), d4_claim(), claim_direct(endless_claim(), three_claim()))]
        for judged in judgeds:
            for question in QUESTIONS:
                found = answered(judged=judged, question=question)
                wanted = plain_answer(judged, question)
                self.assertEqual(found, wanted)
                self.assertIs(type(found), type(wanted))
        three = told_judged(three_claim())
        self.assertEqual(answered(three, ("order", (0,), 2)), "none")
        self.assertEqual(answered(three, ("order", (0,), 3)), 3)
        self.assertEqual(answered(three, ("normal", (0, 2))), "lacks")
        self.assertEqual(answered(None, ("normal", (11,))), "open")
        for thing in ODD_VALUES[1:] + [three.steady, three.claim]:
            refused(self, BadJudged(None), answered, thing, None)
        for thing in ODD_VALUES + [("finite", 1)]:
            refused(self, BadQuestion("x"), answered, three, thing)
            refused(self, BadQuestion("x"), answered, None, thing)


def chance_word(chance, many, most):
    return tuple(chance.randrange(many) for _ in range(chance.randrange(most + 1)))


def chance_deed(chance, live):
    """A deed that may well be done, or not."""
    many = len(live.group.back)
    kind = chance.randrange(9)
    if kind == 0:
        one = chance_word(chance, many, 3)
        other = chance_word(chance, many, 3)
        if live.judged is not None and chance.random() < 0.7:
            other = normal(live.judged.steady, one)[:40]
        return ("put", one, other)
    if kind == 1:
        return ("drop", chance.randrange(4))
    if kind == 2:
        return ("letter", chance_word(chance, many, 3))
    if kind == 3:
        return ("unletter",)
    if kind == 4:
        return chance.choice(CLAIMS)
    if kind == 5:
        place = chance.randrange(max(1, len(live.group.rules)))
        return ("swap", place, chance_swap(live, place))
    if kind == 6:
        return ("unask", chance.randrange(3))
    return ("ask", chance.choice(QUESTIONS))


def chance_swap(live, place):
    """A road that leads as the rule does without it, where one is seen."""
    if place >= len(live.group.rules):
        return ()
    one, other = live.group.rules[place]
    if one == other:
        return ()
    back = live.group.back
    if len(one) == 2 and back[one[0]] == one[1] and other == ():
        return ((0, one, ()),)
    return ((0, one, other),)


THREE = told_judged(three_claim())
CLAIMS = [claim_deed(THREE), claim_deed(told_judged(endless_claim())), claim_deed(told_judged(cyclic_claim(1)))]


class Lives(unittest.TestCase):

    def same(self, one, other):
        self.assertEqual(one, other)
        self.assertEqual(one.first, other.first)
        self.assertEqual(one.group, other.group)
        self.assertEqual(one.judged, other.judged)
        self.assertEqual(one.questions(), other.questions())
        self.assertEqual(one.answers(), other.answers())
        self.assertEqual(one.deeds(), other.deeds())
        self.assertEqual(one.undone(), other.undone())

    def told(self, live):
        return (live.first, live.group, live.judged, live.questions(), live.answers(), live.deeds(), live.undone())

    def anew(self, live):
        """A new Live that does the present deeds, and takes back what was taken back here."""
        other = Live(live.first)
        for deed in live.deeds() + live.undone():
            other.do(deed)
        for _ in live.undone():
            other.undo()
        return other

    def test_new(self):
        group = THREE.claim.group
        live = Live(group=group)
        self.assertEqual((live.first, live.group, live.judged), (group, group, None))
        self.assertEqual((live.questions(), live.answers(), live.deeds(), live.undone()), ([], [], [], []))
        self.assertIsNone(live.do(deed=("ask", ("finite",))))
        self.assertIsNone(live.undo())
        self.assertIsNone(live.redo())
        for thing in ODD_VALUES + [THREE, three_claim()]:
            refused(self, BadGroup(None), Live, thing)
        for name in ("do", "undo", "redo", "questions", "answers", "deeds", "undone", "what_if"):
            self.assertIn(name, vars(Live))

    def test_equal(self):
        group = THREE.claim.group
        one, other = Live(group), Live(group)
        self.assertEqual(one, other)
        one.do(("put", (), ()))
        self.assertNotEqual(one, other)
        other.do(("put", (), ()))
        self.assertEqual(one, other)
        one.undo()
        self.assertNotEqual(one, other)
        self.assertNotEqual(one, Live(group))
        other.undo()
        self.assertEqual(one, other)
        self.assertNotEqual(Live(group), Live(Group((1, 0), [])))
        # The same present group by other deeds.
        third = Live(changed(group, ("put", (), ())))
        one.redo()
        self.assertEqual(one.group, third.group)
        self.assertNotEqual(one, third)
        self.assertFalse(one == group or group == one or one == None or one == [])  # noqa: E711

    def test_judged_by_deeds(self):
        live = Live(THREE.claim.group)
        live.do(("ask", ("order", (0,), 9)))
        live.do(("ask", ("alike", (2,), (0, 0))))
        self.assertEqual(live.answers(), [(0, "open"), (1, "open")])
        live.do(CLAIMS[0])
        self.assertEqual(live.judged, THREE)
        self.assertEqual(live.answers(), [(0, 3), (1, "lacks")])
        live.do(("letter", (0, 0)))
        self.assertEqual(live.judged, kept(THREE, ("letter", (0, 0))))
        self.assertEqual(live.answers(), [(0, 3), (1, True)])
        self.assertEqual(live.what_if(deed=("unletter",)), [(1, True, "lacks")])
        self.assertEqual(live.what_if(("put", (0,), ())), [(0, 3, "open"), (1, True, "open")])
        self.assertEqual(live.what_if(("put", (0,), (1, 1))), [])
        self.assertEqual(live.what_if(("ask", ("finite",))), [])
        self.assertEqual(live.what_if(("unask", 1)), [])
        live.do(("unask", 0))
        self.assertEqual(live.questions(), [(1, ("alike", (2,), (0, 0)))])
        refused(self, NotLet("number"), live.do, ("unask", 0))
        live.do(("ask", ("finite",)))
        self.assertEqual(live.answers(), [(1, True), (2, True)])
        live.do(("put", (0,), ()))
        self.assertIsNone(live.judged)
        self.assertEqual(live.answers(), [(1, "open"), (2, "open")])
        live.do(("unletter",))
        live.do(("drop", 0))
        self.assertEqual(live.group, Group((1, 0), [((0,), ())]))
        self.assertIsNone(live.judged)

    def test_refused_deeds(self):
        live = Live(THREE.claim.group)
        live.do(("ask", ("normal", (0, 0))))
        cases = [(("put", (2,), ()), "word"), (("drop", 1), "place"), (("unletter",), "letters"), (("letter", (2,)), "word"),
                 (("unask", 1), "number"), (("swap", 1, ()), "place"), (("swap", 0, ()), "road"),
                 (("swap", 0, ((0, (0, 0, 0), ()),)), "road"), (CLAIMS[1], "claim"), (CLAIMS[2], "claim"),
                 (("claim", (0, (), ()), (), ()), "claim"), (CLAIMS[0][:3] + ((),), "claim"),
                 (CLAIMS[0][:3] + ((((0, (0, 0), ()),),),), "claim"), (CLAIMS[0][:2] + (CLAIMS[0][2][:2],) + CLAIMS[0][3:], "claim"),
                 (CLAIMS[0][:2] + (CLAIMS[0][2][::-1],) + CLAIMS[0][3:], "claim"),
                 (claim_deed(told_judged(two_claim())), "claim")]
        before = self.told(live)
        for deed, why in cases:
            refused(self, NotLet(why), live.do, deed)
            refused(self, NotLet(why), live.what_if, deed)
            self.assertEqual(self.told(live), before)
        for thing in ODD_VALUES:
            refused(self, BadDeed("x"), live.do, thing)
            refused(self, BadDeed("x"), live.what_if, thing)
        refused(self, NotLet("redo"), live.redo)
        live.undo()
        refused(self, NotLet("undo"), live.undo)
        refused(self, NotLet("claim"), live.do, CLAIMS[1])
        self.assertEqual(live.undone(), [("ask", ("normal", (0, 0)))])
        live.redo()
        self.assertEqual(self.told(live), before)

    def test_undone(self):
        live = Live(THREE.claim.group)
        deeds = [("ask", ("finite",)), CLAIMS[0], ("put", (0, 0), (1,)), ("letter", (0,))]
        for deed in deeds:
            live.do(deed)
        live.undo()
        live.undo()
        live.undo()
        self.assertEqual(live.deeds(), deeds[:1])
        self.assertEqual(live.undone(), deeds[1:])
        live.redo()
        self.assertEqual(live.undone(), deeds[2:])
        self.assertEqual(live.judged, THREE)
        self.same(live, self.anew(live))
        live.undone().clear()
        live.deeds().clear()
        live.questions().clear()
        self.same(live, self.anew(live))
        # Asked for only, nothing is dropped; what is done drops what was undone.
        live.what_if(("put", (), ()))
        self.assertEqual(live.undone(), deeds[2:])
        live.do(("ask", ("normal", ())))
        self.assertEqual(live.undone(), [])
        self.assertEqual(live.questions(), [(0, ("finite",)), (1, ("normal", ()))])
        # A number of a question that was taken back is given anew.
        live.undo()
        live.do(("ask", ("alike", (), ())))
        self.assertEqual(live.questions(), [(0, ("finite",)), (1, ("alike", (), ()))])
        refused(self, NotLet("redo"), live.redo)

    def test_swaps(self):
        group = Group((1, 0), [((0, 0), (1,)), ((0, 0, 0), ()), ((1, 1, 1), ())])
        claim = with_rules(three_claim(), group.rules)
        judged = Judged(claim, [[(0, (0, 0), (1,)), (0, (1, 0), ())]])
        road = ((2, (), (0, 1)), (0, (0, 0, 0), ()))
        for deeds in ([claim_deed(judged)], []):
            live = Live(group)
            for deed in deeds:
                live.do(deed)
            live.do(("swap", 0, road))
            self.assertEqual(live.group, Group((1, 0), group.rules[1:]))
            self.assertEqual(live.judged, kept_by(judged, 0, road) if deeds else None)

    def test_chance(self):
        chance = random.Random(4)
        done = refused_deeds = judged_often = 0
        for start in [THREE.claim.group, Group((1, 0), []), Group((1, 0), [((0,), ())])]:
            for _ in range(4):
                live = Live(start)
                for _ in range(40):
                    before = self.told(live)
                    move = chance.random()
                    try:
                        if move < 0.15:
                            live.undo()
                        elif move < 0.3:
                            live.redo()
                        else:
                            deed = chance_deed(chance, live)
                            self.check_what_if(live, deed)
                            live.do(deed)
                        done += 1
                    except NotLet:
                        refused_deeds += 1
                        self.assertEqual(self.told(live), before)
                    judged_often += live.judged is not None
                    self.check(live)
                self.same(live, self.anew(live))
        self.assertGreater(min(done, refused_deeds, judged_often), 50)

    def check(self, live):
        other = Live(live.first)
        for deed in live.deeds():
            other.do(deed)
        self.assertEqual(self.told(other)[:6], self.told(live)[:6])
        if live.judged is not None:
            self.assertEqual(live.judged.claim.group, live.group)
        self.assertEqual(live.answers(), [(number, plain_answer(live.judged, question))
                                          for number, question in live.questions()])

    def check_what_if(self, live, deed):
        before = self.told(live)
        other = Live(live.first)
        for one in live.deeds():
            other.do(one)
        try:
            told = live.what_if(deed)
        except NotLet as error:
            with self.assertRaises(NotLet) as caught:
                other.do(deed)
            self.assertEqual(caught.exception.why, error.why)
            return
        self.assertEqual(self.told(live), before)
        other.do(deed)
        now, behind = dict(live.answers()), dict(other.answers())
        wanted = [(number, now[number], behind[number]) for number in sorted(now)
                  if number in behind and now[number] != behind[number]]
        self.assertEqual(told, wanted)

    def test_kept_behind_a_claim(self):
        # Rules that hold, letters and swaps keep what is judged, until a rule is put that does not hold.
        chance = random.Random(9)
        for claim in (s3_claim(), d4_claim(), claim_direct(endless_claim(), two_claim())):
            judged = told_judged(claim)
            live = Live(judged.claim.group)
            live.do(claim_deed(judged))
            for _ in range(6):
                many = len(live.group.back)
                if many < 8 and chance.random() < 0.4:
                    live.do(("letter", chance_word(chance, many, 3)))
                else:
                    one = chance_word(chance, many, 3)
                    live.do(("put", one, normal(live.judged.steady, one)))
                self.assertIsNotNone(live.judged)
            rule = live.group.rules[0]
            live.do(("put", rule[0], rule[1]))
            road = tuple(road_between(judged, rule[0], rule[1]))
            live.do(("swap", len(live.group.rules) - 1, road))
            self.assertIsNotNone(live.judged)
            live.do(("put", (0,), ()))
            self.assertIsNone(live.judged)


if __name__ == "__main__":
    unittest.main()
