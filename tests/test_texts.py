"""Points [91] and [93], the first paragraph: short texts, and texts of machines."""

import random
import re
import unittest

from gatewords.errors import BadBack, BadMachine, BadText, BadWord, TooMany
from gatewords.letters import rank, undone
from gatewords.lettertexts import letter_names
from gatewords.machines import Machine
from gatewords.machinetexts import machine_of_text, machine_text, next_in_machine
from gatewords.shorttexts import short_text
from tests.examples import endless_claim, three_claim
from tests.helpers import ODD_VALUES, chain, chance_machine, refused

SIGNS = "".join(sorted(" ()[],^-<>|={};.0123456789abcdefghijklmnopqrstuvwxyzABCDEFGHIJKLMNOPQRSTUVWXYZ"))


def undoing(back, word):
    return tuple(back[letter] for letter in word[::-1])


def all_texts(back, most):
    """Each word, of at most 40 letters, with the least of its texts of at most most signs."""
    names = letter_names(back)
    bases, items, texts = ([[] for _ in range(most + 1)] for _ in range(3))
    for size in range(1, most + 1):
        if size == 1:
            bases[1] += [(names[k], (k,)) for k in range(len(back))]
        if size > 2:
            bases[size] += [(f"({text})", word) for text, word in texts[size - 2]]
        for first in range(1, size - 3):
            for one, u in texts[first]:
                for other, v in texts[size - 3 - first]:
                    bases[size].append((f"[{one},{other}]", undoing(back, u) + undoing(back, v) + u + v))
        items[size] += bases[size]
        for power in list(range(1, 41)) + [-k for k in range(1, 41)]:
            behind = f"^{power}"
            for text, word in bases[size - len(behind)] if size > len(behind) else []:
                items[size].append((text + behind, (word if power > 0 else undoing(back, word)) * abs(power)))
        texts[size] += items[size]
        if size == 1:
            texts[1].append(("1", ()))
        for first in range(1, size):
            texts[size] += [(one + other, u + v) for one, u in items[first]
                            for other, v in texts[size - first] if other != "1"]
        for some in (bases, items, texts):
            some[size] = [(text, word) for text, word in some[size] if len(word) <= 40]
    found = {}
    for some in texts:
        for text, word in some:
            if word not in found or rank(text) < rank(found[word]):
                found[word] = text
    return found


class ShortTexts(unittest.TestCase):

    def test_of_the_document(self):
        self.assertEqual(short_text((1, 0, 2), (0, 2, 0, 2, 1, 2, 0, 2)), "ababAbab")
        self.assertEqual(short_text((1, 0, 2), (0, 2, 0, 2, 0, 2)), "(ab)^3")

    def test_all_of_few_signs(self):
        for back, most in [((1, 0), 7), ((0, 1), 6), ((1, 0, 2), 6)]:
            for word, text in all_texts(back, most).items():
                self.assertEqual(short_text(back, word), text)

    def test_some(self):
        self.assertEqual(short_text((1, 0), ()), "1")
        self.assertEqual(short_text(back=(1, 0), word=(1,)), "A")
        self.assertEqual(short_text((1, 0), (0, 0)), "aa")
        # As many signs: ^ stands ahead of small letters and behind capitals.
        self.assertEqual(short_text((1, 0), (0, 0, 0)), "a^3")
        self.assertEqual(short_text((1, 0), (1, 1, 1)), "AAA")
        self.assertEqual(short_text((1, 0), (0,) * 40), "a^40")
        self.assertEqual(short_text((1, 0), (1,) * 40), "A^40")
        back = (1, 0, 3, 2)
        one, other = (0, 0, 2, 0), (2, 2, 2, 0, 2)
        word = undone(back, one) + undone(back, other) + one + other
        self.assertEqual(short_text(back, word), "[aaba,b^3ab]")
        word = undone(back, (0, 2) * 9) + (0, 2) * 9
        self.assertEqual(short_text(back, word), "[(ab)^9,1]")
        self.assertEqual(short_text(back, (1, 3, 0, 2) * 5), "[a,b]^5")
        self.assertEqual(short_text(back, ((0,) * 6 + (2,)) * 5), "(a^6b)^5")
        self.assertEqual(short_text(back, ((0, 2) * 4 + (0,)) * 4), "((ab)^4a)^4")

    def test_reads_as_the_word_and_undoes(self):
        chance = random.Random(8)
        for size in range(41):
            back = chance.choice([(1, 0), (0, 1), (1, 0, 2), (1, 0, 3, 2)])
            part = tuple(chance.randrange(len(back)) for _ in range(chance.randrange(1, 9)))
            word = (part * 40)[:size]
            text = short_text(back, word)
            self.assertEqual(len(short_text(back, undone(back, word))), len(text))
            self.assertLessEqual(len(text), max(1, size))
            self.assertEqual(self.read(back, text), word)

    def read(self, back, text):
        """The word of a text of names, brackets and powers without -."""
        names = letter_names(back)

        def row(at):
            word = ()
            while at < len(text) and text[at] not in "),]":
                if text[at] == "(":
                    item, at = row(at + 1)
                    at += 1
                elif text[at] == "[":
                    one, at = row(at + 1)
                    other, at = row(at + 1)
                    item = undoing(back, one) + undoing(back, other) + one + other
                    at += 1
                else:
                    item = () if text[at] == "1" else (names.index(text[at]),)
                    at += 1
                if at < len(text) and text[at] == "^":
                    end = at + 1
                    while end < len(text) and text[end].isdigit():
                        end += 1
                    item *= int(text[at + 1:end])
                    at = end
                word += item
            return word, at

        return row(0)[0]

    def test_errors(self):
        refused(self, BadBack("x"), short_text, [1, 0], None)
        for word in [None, [0], (2,), (True,), (0,) * 201]:
            refused(self, BadWord("x"), short_text, (1, 0), word)
        refused(self, TooMany(40), short_text, (1, 0), (0,) * 41)
        refused(self, TooMany(40), short_text, (1, 0), (0,) * 200)


class MachineTexts(unittest.TestCase):

    def test_of_the_document(self):
        machine = Machine(2, [(1, 0), (None, None)], [0, 1])
        self.assertEqual(machine_text(machine), "2 {0>1 1>0; ;} 0 1.")
        self.assertEqual(machine_of_text("2 {0>1 1>0; ;} 0 1."), machine)

    def test_there_and_back(self):
        machines = [chance_machine(seed, 1 + seed % 5, 1 + seed % 14, (0.1, 0.6, 1)[seed % 3]) for seed in range(80)]
        machines += [three_claim().nears[1], endless_claim().words, Machine(169, [[1999] * 169] * 2000, [1999]),
                     Machine(1, [[None]], []), chain(1999)]
        for machine in machines:
            self.assertEqual(machine_of_text(text=machine_text(machine=machine)), machine)

    def test_texts_with_and_without_blanks(self):
        machine = Machine(2, [(1, 0), (None, None)], [0, 1])
        for text in ["2{0>1 1>0;;}0 1.", "  2  {  0 > 1   1 > 0 ; ; } 0   1 .  ", "2 {0>1 1>0;;} 0 1 ."]:
            self.assertEqual(machine_of_text(text), machine)
        self.assertEqual(machine_of_text("1{;}."), Machine(1, [[None]], []))
        self.assertEqual(machine_text(Machine(1, [[None]], [])), "1 {;}.")
        self.assertEqual(machine_text(Machine(3, [[None, 0, None], [2, None, 1], [None] * 3], [2])),
                         "3 {1>0; 0>2 2>1; ;} 2.")

    def test_places(self):
        for text, at in [("", 0), (" ", 1), ("0", 0), ("00", 0), ("170", 2), ("169", 3), ("17 ", 3), ("2", 1), ("2 2", 2),
                         ("2;", 1), ("a", 0), ("-1", 0), ("2{", 2), ("2{}", 2), ("2{.", 2), ("2{2", 2),
                         ("2{0;", 3), ("2{0 0", 4), ("2{01", 3), ("2{0>", 4), ("2{0>;", 4), ("2{0>2000", 7),
                         ("2{0>1999", 8), ("2{0>1;", 6), ("2{0>1;}", 6), ("2{0>1;;}", 8), ("2{0>1 0", 6),
                         ("2{0>1 1>1 ", 10), ("2{0>1 1>1 1", 10), ("2{1>0 0", 6), ("2{;;}1 0", 7),
                         ("2{;;}0 0", 7), ("2{;;}2", 5), ("2{;;}01", 6), ("2{;;}0,", 6), ("2{;;}0 1.", None),
                         ("2{;;}0 1. ", None), ("2{;;}0 1..", 9), ("2{;;}0 1. 1", 10), ("2{;}", 4), ("2{;}.", None),
                         ("2{;;;;;;;;;;;;}10", 17), ("2{;;;;;;;;;;;;}12", 16), ("2{;;;;;;;;;;;;}2 1", 18),
                         ("2{;;;;;;;;;;;;}2 11 ", 20), ("2{;;;;;;;;;;;;}9 1 ", 18), ("2{;;;;;;;;;;;;}9 1.", 18),
                         ("12{10>0 1", 9), ("12{10>0 1 ", 9), ("12{10>0 1>", 9), ("12{10>0 12", 9), ("12{1>0 1", 8),
                         ("12{1>0 1>", 8), ("65{64>0 6", 8), ("2{;;}1 ", 7), ("15{14>0 1", 8),
                         ("2\t{", 1), ("2\n", 1), ("\u0662", 0), ("2{\u00b2", 2), ("2 {0> 1 ;;}.", None),
                         ("2 {0 >1 ;;}.", None), ("2{0>1 ;}", 7), ("2{0>1} ", 5), ("2{;} 0", 6), ("2{;} 1", 5)]:
            if at is None:
                self.assertIsInstance(machine_of_text(text), Machine)
            else:
                refused(self, BadText(at), machine_of_text, text)
                if at < len(text):
                    refused(self, BadText(at), next_in_machine, text)
                else:
                    self.assertIs(next_in_machine(text)[0], False)

    def test_no_strings(self):
        for thing in ODD_VALUES:
            if not isinstance(thing, str):
                refused(self, BadText(None), machine_of_text, thing)
                refused(self, BadText(None), next_in_machine, thing)
            refused(self, BadMachine(None), machine_text, thing)

    def test_next_signs(self):
        self.assertEqual(next_in_machine(text=""), (False, " 123456789"))
        for text, signs in [("1", " 0123456789{"), ("16", " 0123456789{"), ("17", " {"), ("169", " {"), ("2", " 0123456789{"),
                            ("2 ", " {"), ("2{", " 01;"), ("2{0", " >"), ("2{0>", " 0123456789"), ("2{0>0", " ;"),
                            ("2{0>1", " 0123456789;"), ("2{0>0 ", " 1;"), ("2{0>0 1>0", " ;"), ("2{0>0 1>0 ", " ;"),
                            ("2{0>0;", " 01;}"), ("2{0>1;", " 01;"), ("2{0>1; ;", " 01;}"), ("2{;;}", " .01"),
                            ("2{;;}0", " ."), ("2{;;}0 ", " .1"), ("2{;;}1", " ."), ("2{;;}1 ", " ."),
                            ("2{0>199", " 0123456789;"), ("2{0>1999", " ;"), ("2{0>200", " ;"), ("2{0>20", " 0123456789;"),
                            ("2{0>2", " 0123456789;"), ("2{0>21", " 0123456789;"), ("12{9>0 1", "01"), ("12{9>0 ", " 1;"),
                            ("12{1>0 ", " 123456789;"), ("12{1>0 1", "01"), ("12{0>0 1", " 01>")]:
            self.assertEqual(next_in_machine(text), (False, signs), text)
        for text in ["1{;}.", "1{;}.  "]:
            self.assertEqual(next_in_machine(text), (True, " "))

    def test_each_cut_of_a_text(self):
        texts = [machine_text(chance_machine(seed, 1 + seed % 12, 1 + seed % 13, 0.6)) for seed in range(12)]
        for text in texts + ["  12 { 3>1 11 > 0 ; ;}  0   1 . "]:
            for cut in range(len(text) + 1):
                whole, signs = next_in_machine(text[:cut])
                self.assertIs(whole, "." in text[:cut])
                if cut < len(text):
                    self.assertIn(text[cut], signs)
                    if not whole:
                        refused(self, BadText(cut), machine_of_text, text[:cut])
                for sign in SIGNS + "\t_":
                    if sign in signs:
                        next_in_machine(text[:cut] + sign)
                    else:
                        refused(self, BadText(cut), next_in_machine, text[:cut] + sign)

    def test_each_beginning_goes_on_to_a_text(self):
        # Whatever the signs let, some text begins so: a plain way to its end is always there.
        chance = random.Random(1)
        for _ in range(60):
            text = ""
            for _ in range(chance.randrange(40)):
                text += chance.choice(next_in_machine(text)[1])
            self.assertIsInstance(machine_of_text(self.ended(text)), Machine)

    def ended(self, text):
        while not next_in_machine(text)[0]:
            signs = next_in_machine(text)[1]
            for sign in ".};>{" + "9876543210" + " ":
                if sign in signs:
                    # All states that are told of are put at once: there may be 2000.
                    told = max(map(int, re.findall("> *([0-9]+)", text)), default=0)
                    text += sign * (max(1, told + 1 - text.count(";")) if sign == ";" else 1)
                    break
        return text

    def test_many_states(self):
        text = "1{" + ";" * 2000
        self.assertEqual(next_in_machine(text), (False, " }"))
        self.assertEqual(next_in_machine(text[:-1]), (False, " 0;}"))
        refused(self, BadText(2002), machine_of_text, text + ";")
        refused(self, BadText(2002), machine_of_text, text + "0")
        self.assertEqual(len(machine_of_text(text + "} 1999.").ways), 2000)
        refused(self, BadText(2007), machine_of_text, text + "} 2000.")
        self.assertEqual(machine_of_text(text[:-1] + "0>1999;}.").ways[1999], (1999,))
        self.assertEqual(next_in_machine("1{0>1999" + ";" * 1999), (False, " 0;"))


if __name__ == "__main__":
    unittest.main()
