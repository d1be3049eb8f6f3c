"""Point 97: a desk, to which lines are told."""

import random
import unittest

from gatewords.desk import Desk
from gatewords.errors import BadBack, BadText
from gatewords.giants import giant_of_text
from tests.helpers import ODD_VALUES, refused

BACK = (1, 0, 2)


def told(lines, back=BACK):
    desk = Desk(back)
    for line in lines:
        desk.tell(line)
    return desk


class Desks(unittest.TestCase):

    def talk(self, *pairs, back=BACK):
        """Tell lines to a new desk, and look at each answer."""
        desk = Desk(back)
        for line, answer in pairs:
            self.assertEqual(desk.tell(line), answer, line)
        return desk

    def test_deeds_and_questions(self):
        desk = self.talk(
            ("names", "none"), ("word x = (ab)^2[a,b]", "done"), ("size x", "8"), ("letter x 0", "a"), ("letter x 4", "A"),
            ("word y = a^1000b", "done"), ("power z = y 1000000", "done"), ("size z", "1001000000"), ("letter z 1000", "b"),
            ("join xy = x y", "done"), ("size xy", "1009"), ("apart xy x", "8"), ("apart x x", "none"),
            ("part p = xy 8 1009", "done"), ("same p y", "yes"), ("same p x", "no"), ("undo q = p", "done"),
            ("join e = p q", "done"), ("free f = e", "done"), ("size f", "0"), ("alike e f", "yes"), ("same e f", "no"),
            ("alike p q", "no"), ("commute p q", "yes"), ("commute x y", "no"), ("names", "e f p q x xy y z"),
            ("drop e", "done"), ("names", "f p q x xy y z"), ("drop e", "unknown e"), ("word f =", "place 0"),
            ("word f = 1", "done"), ("part g = x 2 2", "done"), ("same f g", "yes"))
        self.assertEqual(desk.back, BACK)
        self.assertEqual(len(desk.journal()), 11)

    def test_names_made_anew(self):
        desk = self.talk(("word a = a", "done"), ("word b = b", "done"), ("join a = a b", "done"), ("join a = a a", "done"),
                         ("size a", "4"), ("part a = a 1 3", "done"), ("letter a 0", "b"), ("undo a = a", "done"),
                         ("letter a 0", "A"), ("drop a", "done"), ("size a", "unknown a"), ("back", "done"), ("size a", "2"))
        self.assertEqual(desk.tell("names"), "a b")

    def test_blanks(self):
        self.talk(("  word   x   =   ab  ", "done"), ("size x", "2"), ("  size    x ", "2"), ("word y =a", "what"),
                  ("word y= a", "what"), ("word y = = a", "place 1"), ("word y =  ", "place 2"), ("word y = a b ", "done"),
                  ("\tsize x", "what"), ("size x\n", "what"), ("", "what"), ("   ", "what"), ("word y = a\n", "place 2"),
                  (" back ", "done"), ("word  word = a", "done"), ("size word", "1"), ("wordx = a", "what"))

    def test_names_and_numbers(self):
        self.talk(("word abcdefghijkl = a", "done"), ("word abcdefghijklm = a", "what"), ("size abcdefghijklm", "what"),
                  ("word x1 = a", "what"), ("word X = a", "what"), ("word x = a", "done"), ("letter x 0", "a"),
                  ("letter x 00", "what"), ("letter x 01", "what"), ("letter x -1", "what"), ("letter x +0", "what"),
                  ("letter x 1234567890123", "range"), ("letter x 12345678901234", "what"), ("letter x 1_0", "what"),
                  ("letter x \u0660", "what"), ("letter x 1", "range"), ("letter x", "what"), ("letter x 0 0", "what"),
                  ("letter x 0.", "what"), ("drop \u00e4", "what"))

    def test_each_form_refused(self):
        forms = {"word": "what", "join n = x": "what", "join n = x x x": "what", "join n x x": "what", "join N = x x": "what",
                 "join n = y x": "unknown y", "join n = x y": "unknown y", "join n = z y": "unknown z",
                 "power n = x": "what", "power n = x x": "what", "power n = y 0": "unknown y",
                 "power n = y 1000001": "unknown y", "power n = x 1000001": "range", "power n = x 1000000": "done",
                 "power n = g 1000000": "large", "power n = g 1000001": "range", "power n = g 0": "done",
                 "part n = x 0": "what", "part n = x 0 1 1": "what", "part n = y 0 9": "unknown y", "part n = x 0 3": "range",
                 "part n = x 3 3": "range", "part n = x 2 1": "range", "part n = x 0 2": "done",
                 "undo n = y": "unknown y", "undo n = x x": "what", "undo n =": "what", "free n = y": "unknown y",
                 "free n x": "what", "drop y": "unknown y", "drop": "what", "drop x x": "what", "size": "what",
                 "size y": "unknown y", "letter y 0": "unknown y", "letter x x": "what", "same x": "what",
                 "same y z": "unknown y", "same x z": "unknown z", "apart y x": "unknown y", "apart x y": "unknown y",
                 "alike x": "what", "alike z y": "unknown z", "commute x x x": "what", "commute y y": "unknown y",
                 "names x": "what", "back 1": "what", "again x": "what", "word n = a^": "place 3", "word n = [a,b": "place 5",
                 "word n = c": "place 1", "word n": "what", "word = a": "what", "Word n = a": "what", "odd": "what",
                 "join n = g g": "large", "join n = g x": "large", "word n = ((ab)^1000000)^500001": "place 21"}
        for line, answer in forms.items():
            desk = told(["word x = ab", "word g = ((ab)^1000000)^500000"])
            before = told(desk.journal())
            self.assertEqual(desk.tell(line=line), answer, line)
            if answer == "done":
                self.assertEqual(desk.journal()[2:], [line])
                self.assertNotEqual(desk, before)
            else:
                self.assertEqual(desk, before)
                self.assertEqual(desk.journal(), before.journal())

    def test_back_and_again(self):
        desk = self.talk(("back", "nothing"), ("again", "nothing"), ("word x = a", "done"), ("again", "nothing"),
                         ("word y = b", "done"), ("back", "done"), ("names", "x"), ("again", "done"), ("names", "x y"),
                         ("back", "done"), ("back", "done"), ("back", "nothing"), ("again", "done"), ("size x", "1"),
                         ("join z = x x", "done"), ("again", "nothing"), ("back", "done"), ("what", "what"),
                         ("word q = ?", "place 1"), ("drop q", "unknown q"), ("again", "done"), ("names", "x z"))
        self.assertEqual(desk.journal(), ["word x = a", "join z = x x"])

    def test_journal(self):
        lines = ["  word x = a b ", "word x = b", "drop x", "word y =   1"]
        desk = told(lines)
        self.assertEqual(desk.journal(), lines)
        desk.journal().clear()
        self.assertEqual(desk.journal(), lines)

    def test_equality(self):
        self.assertEqual(told(["word x = abab", "word y = 1"]), told(["word y = (1)", "word x = (ab)^2"]))
        self.assertEqual(Desk(back=BACK), told(["word x = a", "drop x"]))
        self.assertNotEqual(told(["word x = a"]), told(["word x = A"]))
        self.assertNotEqual(told(["word x = a"]), told(["word y = a"]))
        self.assertNotEqual(Desk((1, 0)), Desk((0, 1)))
        self.assertFalse(Desk(BACK) == BACK)
        self.assertFalse(Desk(BACK) == giant_of_text(BACK, "1"))

    def chance_line(self, chance):
        names = ["x", "y", "z", "xx"]
        one, other, third = (chance.choice(names) for _ in range(3))
        number = chance.choice(["0", "1", "2", "3", "7", "999999"])
        return chance.choice([f"word {one} = a^{chance.randint(1, 9)}b", f"word {one} = (aB)", f"word {one} =  [a,b]^3",
                              f"join {one} = {other} {third}", f"power {one} = {other} {number}",
                              f"part {one} = {other} 1 {number}", f"undo {one} = {other}", f"free {one} = {other}",
                              f"drop {one}", "back", "back", "again", f"size {one}", f"same {one} {other}", "names", "odd line",
                              f"letter {one} {number}", f"commute {one} {other}", f"alike {one} {other}"])

    def test_whole_histories(self):
        for seed in range(12):
            chance = random.Random(seed)
            desk = Desk(BACK)
            for _ in range(120):
                desk.tell(self.chance_line(chance))
                if chance.random() < 0.1:
                    self.assertEqual(told(desk.journal()), desk)
            lines = desk.journal()
            copy = told(lines)
            self.assertEqual(copy, desk)
            steps = [copy.tell("names")]
            for k in range(len(lines), 0, -1):
                self.assertEqual(desk.journal(), lines[:k])
                self.assertEqual(desk, told(lines[:k]))
                self.assertEqual(desk.tell("back"), "done")
            self.assertEqual(desk.tell("back"), "nothing")
            self.assertEqual(desk, Desk(BACK))
            for k in range(len(lines)):
                self.assertEqual(desk.tell("again"), "done")
                self.assertEqual(desk.journal(), lines[:k + 1])
            self.assertEqual(desk, copy)
            self.assertEqual(desk.tell("names"), steps[0])
            # Those taken back ahead of all this may still be done anew, but no others.
            self.assertIn(desk.tell("again"), ("nothing", "done"))

    def test_wrong_inputs(self):
        for thing in ODD_VALUES:
            if thing not in [(0, 1), (1, 0)]:
                refused(self, BadBack("none"), Desk, thing)
            if not isinstance(thing, str):
                refused(self, BadText(None), Desk(BACK).tell, thing)


if __name__ == "__main__":
    unittest.main()
