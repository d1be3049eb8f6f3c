"""Points 90, 92 and 93: texts of words, groups and claims, and their exact places."""

import random
import re
import unittest

from gatewords.claims import Claim
from gatewords.claimtexts import claim_of_text, claim_text, next_in_claim
from gatewords.errors import BadBack, BadClaim, BadGroup, BadText, BadWord
from gatewords.freeclaims import claim_free
from gatewords.groups import Group
from gatewords.grouptexts import group_of_text, group_text, next_in_group
from gatewords.lettertexts import letter_names
from gatewords.machinetexts import machine_text
from gatewords.wordtexts import next_in_word, word_of_text, word_text
from tests.examples import D4_BACK, D4_RULES, THREE, d4_claim, endless_claim, s3_claim, three_claim, two_claim
from tests.helpers import ODD_VALUES, refused

SIGNS = "".join(sorted(" ()[],^-<>|={};.0123456789abcdefghijklmnopqrstuvwxyzABCDEFGHIJKLMNOPQRSTUVWXYZ"))
BACKS = [(1, 0), (0, 1), (1, 0, 2), (2, 1, 0), (1, 0, 3, 2), tuple(range(12)), (3, 1, 4, 0, 2)]


def tokens(text):
    """The tokens of a text, None if there are none such."""
    found = re.findall(r"[a-zA-Z()\[\],^<>|={};.-]|[0-9]+| +|(?s:.)", text)
    if not all(re.fullmatch(r"[a-zA-Z()\[\],^<>|={};.-]|0|[1-9][0-9]*| +", part) for part in found):
        return None
    return [part for part in found if part[0] != " "]


class Wrong(Exception):
    pass


def size_of(back, text, most):
    """How many letters a word text reads as, None if it is none, by the grammar of the document."""
    told = tokens(text)
    if told is None:
        return None
    told = told + [""]
    names = letter_names(back)
    at = 0

    def take(*lets):
        nonlocal at
        if told[at] not in lets:
            raise Wrong
        at += 1
        return told[at - 1]

    def words(depth):
        nonlocal at
        if told[at] == "1":
            at += 1
            return 0
        size = item(depth)
        while told[at] and told[at] in list(names) + ["(", "["]:
            size += item(depth)
        return size

    def item(depth):
        nonlocal at
        sign = take("(", "[", *names)
        size = 1
        if sign in "([" and depth == 20:
            raise Wrong
        if sign == "(":
            size = words(depth + 1)
            take(")")
        elif sign == "[":
            size = words(depth + 1)
            take(",")
            size = 2 * (size + words(depth + 1))
            take("]")
        if told[at] == "^":
            at += 1
            if told[at] == "-":
                at += 1
            if not re.fullmatch("[1-9][0-9]{0,6}", told[at]) or int(told[at]) > 1000000:
                raise Wrong
            size *= int(told[at])
            at += 1
        return size

    try:
        size = words(0)
        take("")
    except Wrong:
        return None
    return size if size <= most and at == len(told) else None


def completed(text):
    """The text with what makes a beginning a word text, as the document tells it."""
    tail = "1" if not text.strip(" ") or text.rstrip(" ")[-1] in "([,^-" else ""
    opened = []
    for sign in text:
        if sign in "([":
            opened.append(sign)
        elif sign == "," and opened:
            opened[-1] = ","
        elif sign in ")]" and opened:
            opened.pop()
    return text + tail + "".join({"(": ")", "[": ",1]", ",": "]"}[sign] for sign in reversed(opened))


def is_beginning(back, text, most=200):
    return size_of(back, completed(text), most) is not None


def chance_text(chance, names, depth, great=False):
    """A word text by chance."""
    text = ""
    for _ in range(chance.randint(1, 3)):
        kind = chance.random()
        if kind < 0.5 or not depth:
            text += chance.choice(names)
        elif kind < 0.75:
            text += "(" + chance_part(chance, names, depth - 1, great) + ")"
        else:
            text += "[" + chance_part(chance, names, depth - 1, great) + "," + chance_part(
                chance, names, depth - 1, great) + "]"
        if chance.random() < 0.4:
            text += chance.choice(["^", "^-", "^ ", "^- "]) + str(chance.choice([1, 2, 3, 10, 60, 1000000] if great
                                                                             else [1, 2, 3]))
        text += " " * (chance.random() < 0.1)
    return text


def chance_part(chance, names, depth, great):
    return "1" if chance.random() < 0.2 else chance_text(chance, names, depth, great)


def bent(chance, text, signs):
    """The text with a sign changed, put in or taken out."""
    at = chance.randrange(len(text) + 1)
    return text[:at] + chance.choice([chance.choice(signs), ""]) + text[at + chance.randint(0, 1):]


def read(back, told):
    """What the items of a text read as, by hand: strings of names, and tuples (items, exponent)."""
    names = letter_names(back)
    return tuple(names.index(name) for name in told)


class WordTexts(unittest.TestCase):

    def test_example(self):
        self.assertEqual(word_of_text(back=(1, 0, 2), text="(ab)^2[a,b]"), (0, 2, 0, 2, 1, 2, 0, 2))
        refused(self, BadText(3), word_of_text, (1, 0, 2), "ab^01")
        self.assertEqual(next_in_word(back=(1, 0, 2), text="ab^")[0], False)

    def test_what_texts_read_as(self):
        back = (1, 0, 3, 2)
        for text, told in [("1", ""), (" 1 ", ""), ("(1)", ""), ("(1)^1000000", ""), ("[1,1]^-7", ""), ("a", "a"),
                           ("a b A", "abA"), ("a^3", "aaa"), ("a^-3", "AAA"), ("A ^ - 2", "aa"), ("(ab)^-2", "BABA"),
                           ("[a,b]", "ABab"), ("[a,b]^-1", "BAba"), ("[ab,1]", "BAab"), ("[1,b^2]", "BBbb"),
                           ("((a)^2b)^2", "aabaab"), ("[[a,b],a]", "BAbaAABaba"), ("aA", "aA"), ("(a(b(A)))", "abA")]:
            self.assertEqual(word_of_text(back, text), read(back, told), text)

    def test_names(self):
        self.assertEqual(word_of_text((2, 1, 0), "abA"), (0, 1, 2))
        self.assertEqual(word_of_text((3, 1, 4, 0, 2), "abcAC"), (0, 1, 2, 3, 4))
        self.assertEqual(word_of_text(tuple(range(12)), "lk"), (11, 10))
        refused(self, BadText(0), word_of_text, (0, 1), "A")
        refused(self, BadText(0), word_of_text, (1, 0), "b")

    def test_limits(self):
        back = (1, 0)
        for text, at in [("a^200", None), ("a^201", 4), ("a" * 200, None), ("a" * 201, 200), ("(a^100)^2", None),
                         ("(a^100)^3", 8), ("a^200a", 5), ("[a^50,a^50]", None), ("[a^50,a^51]", 9),
                         ("[a^100,1]", None), ("[a^101,1]", 5), ("[[a^50,1],1]", None), ("[[a^51,1],1]", 5),
                         ("(1)^1000000", None), ("(1)^1000001", 10), ("a^1000000", 5), ("a^-200", None), ("a^-201", 5),
                         ("(" * 20 + "a" + ")" * 20, None), ("(" * 21 + "a" + ")" * 21, 20),
                         ("[" * 20 + "1", 21), ("[" * 6 + "a", 7), ("[" * 8 + "a", 8), ("a^0", 2), ("a^00", 2), ("a^1 0", 4),
                         ("a^2^2", 3), ("(a)^2 ^2", 6), ("11", 1), ("1a", 1), ("1^2", 1), ("a1", 1), ("2", 0), ("0", 0),
                         ("", 0), ("  ", 2), ("()", 1), ("[a]", 2), ("[a,]", 3), ("(a,a)", 2), ("a)", 1), ("a,", 1),
                         ("a^", 2), ("a^-", 3), ("a^--1", 3), ("a-1", 1), ("a^ 1 2", 5), ("a\t", 1), ("a\n", 1),
                         ("(a", 2), ("[a,b", 3), ("a\u00e9", 1), ("a^\u0662", 2), ("a=", 1), ("a>", 1), ("a.", 1)]:
            if at is None:
                self.assertEqual(len(word_of_text(back, text)), size_of(back, text, 200), text)
                self.assertTrue(next_in_word(back, text)[0])
            else:
                refused(self, BadText(at), word_of_text, back, text)
                self.assertIsNone(size_of(back, text, 200))
                self.assertEqual([is_beginning(back, text[:k]) for k in range(len(text) + 1)],
                                 [k <= at for k in range(len(text) + 1)], text)

    def test_places_of_bent_texts(self):
        chance = random.Random(7)
        whole = 0
        for seed in range(900):
            back = BACKS[seed % len(BACKS)]
            text = chance_text(chance, letter_names(back), 3, seed % 2 == 1)
            if seed % 3:
                text = bent(chance, text, SIGNS + "%\n")
            size = size_of(back, text, 200)
            at = max(k for k in range(len(text) + 1) if is_beginning(back, text[:k]))
            if size is not None:
                whole += 1
                self.assertEqual(len(word_of_text(back, text)), size)
                self.assertEqual(at, len(text))
            else:
                refused(self, BadText(at), word_of_text, back, text)
            if at == len(text):
                signs = "".join(sign for sign in SIGNS if is_beginning(back, text + sign))
                self.assertEqual(next_in_word(back, text), (size is not None, signs), text)
            else:
                refused(self, BadText(at), next_in_word, back, text)
        self.assertTrue(200 < whole < 800)

    def test_each_cut(self):
        back = (1, 0, 2)
        text = " ( a b^2 [A ,(1)^10])^ -3b [a^4,b ]^1"
        for cut in range(len(text) + 1):
            front = text[:cut]
            signs = "".join(sign for sign in SIGNS if is_beginning(back, front + sign))
            self.assertEqual(next_in_word(back, front), (size_of(back, front, 200) is not None, signs), front)

    def test_word_text(self):
        back = (1, 0, 2)
        for word, text in [((), "1"), ((0,), "a"), ((0, 0), "a^2"), ((1, 1, 2, 0), "A^2ba"), ((0,) * 200, "a^200"),
                           ((0, 2, 0, 2), "abab"), ((0, 1, 1), "aA^2")]:
            self.assertEqual(word_text(back=back, word=word), text)
            self.assertEqual(word_of_text(back, text), word)

    def test_wrong_inputs(self):
        for thing in ODD_VALUES:
            if thing not in BACKS:
                refused(self, BadBack("none"), word_of_text, thing, None)
                refused(self, BadBack("none"), word_text, thing, None)
                refused(self, BadBack("none"), next_in_word, thing, None)
            if not isinstance(thing, str):
                refused(self, BadText(None), word_of_text, (1, 0), thing)
                refused(self, BadText(None), next_in_word, (1, 0), thing)
        for word in [None, [0], (2,), (True,), (0,) * 201, "a"]:
            refused(self, BadWord("none"), word_text, (1, 0), word)


def told_group(text):
    """The names and sides of a group text, None if it is none, by the grammar of the document."""
    match = re.fullmatch(r" *<([ a-zA-Z]*)\|([^|]*)> *", text)
    if not match:
        return None
    names = match[1].replace(" ", "")
    if not 2 <= len(names) <= 12:
        return None
    small = 0
    for place, name in enumerate(names):
        if name.islower():
            if name != "abcdefghijkl"[small:small + 1]:
                return None
            small += 1
        elif name.lower() not in names[:place] or name in names[:place]:
            return None
    back = tuple(names.index(name.swapcase()) if name.swapcase() in names else place for place, name in enumerate(names))
    parts = [""]
    depth = 0
    for sign in match[2]:
        depth += {"(": 1, "[": 1, ")": -1, "]": -1}.get(sign, 0)
        if sign == "," and depth == 0:
            parts.append("")
        else:
            parts[-1] += sign
    if not match[2].strip(" "):
        return back, []
    rules = []
    for part in parts:
        sides = part.split("=")
        if len(sides) != 2 or any(size_of(back, side, 40) is None for side in sides):
            return None
        rules.append(sides)
    return (back, rules) if len(rules) <= 40 else None


def begins_group(text):
    """Whether a string begins a group text: something of a few kinds completes it."""
    ends = ["<ab|>", "ab|>", "b|>", "|>", ">", "1=1>", "=1>", ""]
    if "|" in text:
        start = max(text.rfind(sign) for sign in "|=") + 1
        for at in range(start, len(text) + 1):
            if at == start or text[at - 1] == ",":
                tail = completed(text[at:])[len(text[at:]):]
                ends += [tail + "=1>", tail + ">"]
    return any(told_group(text + end) is not None for end in ends)


class GroupTexts(unittest.TestCase):

    def groups(self):
        chance = random.Random(3)
        yield from [THREE, Group((1, 0), []), Group(D4_BACK, D4_RULES), Group((2, 1, 0), [((), (2, 2))])]
        for back in BACKS:
            rules = [tuple(tuple(chance.randrange(len(back)) for _ in range(chance.randint(0, 6))) for _ in range(2))
                     for _ in range(chance.randint(0, 5))]
            yield Group(back, rules)

    def test_texts(self):
        self.assertEqual(group_text(group=THREE), "<a A | a^3 = 1>")
        self.assertEqual(group_text(Group((0, 1), [])), "<a b |>")
        self.assertEqual(group_text(Group((2, 1, 0), [((0, 2), (1, 1)), ((), ())])), "<a b A | aA = b^2, 1 = 1>")

    def test_there_and_back(self):
        for group in self.groups():
            text = group_text(group)
            self.assertEqual(group_of_text(text=text), group)
            self.assertTrue(next_in_group(text=text)[0])
            self.assertEqual(group_of_text(text.replace(" ", "")), group)
            self.assertEqual(group_of_text("  " + re.sub(r"([<>|=,])", r" \1 ", text)), group)

    def test_texts_of_other_forms(self):
        self.assertEqual(group_of_text("<abcABdDC|[a,b]=(cd)^-2>"),
                         Group((3, 4, 7, 0, 1, 6, 5, 2), [((3, 4, 0, 1), (6, 7, 6, 7))]))
        self.assertEqual(group_of_text("<ab|1=(1)^1000000>"), Group((0, 1), [((), ())]))

    def test_limits(self):
        rule = "a^40=b^40"
        self.assertEqual(len(group_of_text("<ab|" + ",".join([rule] * 40) + ">").rules), 40)
        text = "<ab|" + ",".join([rule] * 41) + ">"
        refused(self, BadText(4 + 40 * len(rule) + 39), group_of_text, text)
        refused(self, BadText(7), group_of_text, "<ab|a^41=1>")
        refused(self, BadText(9), group_of_text, "<ab|1=a^41>")
        self.assertEqual(group_of_text("<abcdefghijkl|>"), Group(tuple(range(12)), []))
        self.assertEqual(group_of_text("<aAbBcCdDeEfF|>").back, tuple(k ^ 1 for k in range(12)))
        refused(self, BadText(13), group_of_text, "<abcdefghijklm|>")
        refused(self, BadText(13), group_of_text, "<abcdefghijklL|>")
        refused(self, BadText(2), group_of_text, "<a|>")
        refused(self, BadText(2), group_of_text, "<ac|>")
        refused(self, BadText(1), group_of_text, "<A|>")
        refused(self, BadText(3), group_of_text, "<aAA|>")
        refused(self, BadText(3), group_of_text, "<abb|>")
        for text, at in [("", 0), ("a", 0), ("<", 1), ("<ab", 3), ("<ab|", 4), ("<ab|a>", 5), ("<ab|a=>", 6), ("<ab|a=b,>", 8),
                         ("<ab|,>", 4), ("<ab|=>", 4), ("<ab|a=b=a>", 7), ("<ab|c=a>", 4), ("<ab|>a", 5), ("<ab|> <", 6),
                         ("<ab||>", 4), ("<ab|[a=b,b]>", 6), ("<ab|a=[a,b>", 10), ("<ab|a=(b,a=b>", 8), ("<ab|1>", 5)]:
            refused(self, BadText(at), group_of_text, text)

    def test_places_of_bent_texts(self):
        chance = random.Random(11)
        texts = [group_text(group) for group in self.groups()] + ["< ab A|(ab)^2=[a,1],[ab,(A)^2] = 1 , b=b>"]
        for seed in range(500):
            text = bent(chance, texts[seed % len(texts)], SIGNS)
            at = max(k for k in range(len(text) + 1) if begins_group(text[:k]))
            told = told_group(text)
            if told is not None:
                self.assertEqual(group_of_text(text).back, told[0])
                self.assertEqual(len(group_of_text(text).rules), len(told[1]))
            else:
                refused(self, BadText(at), group_of_text, text)
            if at < len(text):
                refused(self, BadText(at), next_in_group, text)

    def test_each_cut(self):
        for text in ["< a b A | a^2 b= [a,b] , 1= (A)^-3 > ", "<aA|>"]:
            for cut in range(len(text) + 1):
                front = text[:cut]
                signs = "".join(sign for sign in SIGNS if begins_group(front + sign))
                self.assertEqual(next_in_group(front), (told_group(front) is not None, signs), front)

    def test_wrong_inputs(self):
        for thing in ODD_VALUES:
            refused(self, BadGroup(None), group_text, thing)
            if not isinstance(thing, str):
                refused(self, BadText(None), group_of_text, thing)
                refused(self, BadText(None), next_in_group, thing)


class ClaimTexts(unittest.TestCase):

    def claims(self):
        return [three_claim(), s3_claim(), two_claim(), endless_claim(), d4_claim(),
                claim_free(two_claim(), three_claim())]

    def test_there_and_back(self):
        for claim in self.claims():
            text = claim_text(claim=claim)
            machines = [machine_text(machine) for machine in (claim.words,) + claim.nears]
            self.assertEqual(text, " ".join([group_text(claim.group)] + machines))
            self.assertEqual(claim_of_text(text=text), claim)
            self.assertEqual(next_in_claim(text=text), (True, " "))
            self.assertEqual(claim_of_text(" " + text.replace("} ", "}  ").replace("; ", ";") + "  "), claim)

    def test_each_cut_and_each_sign(self):
        text = claim_text(three_claim())
        parts = text.split(". ")
        for cut in range(len(text) + 1):
            front = text[:cut]
            whole, signs = next_in_claim(front)
            self.assertEqual(whole, cut == len(text))
            if cut < len(text):
                self.assertIn(text[cut], signs)
                refused(self, BadText(cut), claim_of_text, front)
            for sign in SIGNS:
                if sign in signs:
                    next_in_claim(front + sign)
                else:
                    refused(self, BadText(cut), next_in_claim, front + sign)
                    refused(self, BadText(cut), claim_of_text, front + sign)
        self.assertEqual(len(parts), 4)

    def test_numbers_of_letters(self):
        text = claim_text(three_claim())
        at = text.index("> 2 {") + 2
        refused(self, BadText(at), claim_of_text, text[:at] + "3" + text[at + 1:])
        refused(self, BadText(at + 1), claim_of_text, text[:at] + "29" + text[at + 1:])
        near = text.index(". 9 {") + 2
        refused(self, BadText(near), claim_of_text, text[:near] + "8" + text[near + 1:])
        refused(self, BadText(len(text)), claim_of_text, text + "9 {;}.")
        refused(self, BadText(text.rindex(".") + 1 - len(machine_text(three_claim().nears[2]))), claim_of_text,
                text[:len(text) - len(machine_text(three_claim().nears[2]))])
        self.assertEqual(next_in_claim(text[:at]), (False, " 2"))
        self.assertEqual(next_in_claim(text[:near + 1]), (False, " {"))
        great = "<abcdefghijkl|>12 {;}." + "169 {;}." * 13
        claim = claim_of_text(great)
        self.assertEqual((len(claim.nears), claim.nears[0].letters), (13, 169))
        self.assertEqual(claim_text(claim), "<a b c d e f g h i j k l |> 12 {;}." + " 169 {;}." * 13)

    def test_wrong_inputs(self):
        for thing in ODD_VALUES:
            refused(self, BadClaim(None), claim_text, thing)
            if not isinstance(thing, str):
                refused(self, BadText(None), claim_of_text, thing)
                refused(self, BadText(None), next_in_claim, thing)
        self.assertIsInstance(claim_of_text(claim_text(three_claim())), Claim)


if __name__ == "__main__":
    unittest.main()
