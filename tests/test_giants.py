"""Points 94 to 96: giants, freed, led along tables, their roots."""

import random
import unittest

from gatewords import blockjoins, blockpowers, blocks
from gatewords.cosettables import found_table
from gatewords.errors import BadBack, BadGiant, BadGroup, BadMachine, BadNumber, BadText, BadWord, TooMany
from gatewords.giantfree import giant_free, giant_goal, giants_alike
from gatewords.giantroots import giant_core, giant_root, giants_commute
from gatewords.giants import (Giant, giant_apart, giant_joined, giant_letter, giant_of_text, giant_of_word, giant_part,
                              giant_power, giant_undone, giant_word)
from gatewords.groups import Group
from gatewords.letters import free
from gatewords.lettertexts import letter_names
from gatewords.machines import Machine, goal
from gatewords.subgroups import Subgroup
from tests.examples import D4_BACK, D4_RULES, S3_BACK, S3_RULES
from tests.helpers import ODD_VALUES, refused
from tests.test_wordtexts import chance_text

BACKS = [(1, 0), (0, 1), (1, 0, 2), (0, 1, 2), (1, 0, 3, 2), (1, 0, 2, 3)]
MOST = 10 ** 12


def undone(back, word):
    return tuple(back[k] for k in word[::-1])


def freed(back, word):
    left = []
    for letter in word:
        if left and left[-1] == back[letter]:
            left.pop()
        else:
            left.append(letter)
    return tuple(left)


def written_out(back, text):
    """The letters that a word text without blanks reads as, one by one."""
    names = letter_names(back)
    at = 0

    def words():
        nonlocal at
        found = ()
        while at < len(text) and text[at] not in ",)]":
            sign = text[at]
            at += 1
            if sign == "1":
                continue
            if sign == "(":
                part = words()
                at += 1
            elif sign == "[":
                one = words()
                at += 1
                other = words()
                at += 1
                part = undone(back, one) + undone(back, other) + one + other
            else:
                part = (names.index(sign),)
            if at < len(text) and text[at] == "^":
                end = at + 1
                while end < len(text) and text[end] in "-0123456789":
                    end += 1
                many = int(text[at + 1:end])
                at = end
                part = (part if many > 0 else undone(back, part)) * abs(many)
            found += part
        return found

    return words()


def letters(giant):
    """The letters of a giant of some thousand letters."""
    found = ()
    for start in range(0, giant.size, 200):
        found += giant_word(giant_part(giant, start, min(start + 200, giant.size)))
    return found


def told_out(back, word):
    """The giant of letters that are told one by one."""
    names = letter_names(back)
    return giant_of_text(back, "".join(names[letter] for letter in word) or "1")


def alike_ahead(one, other):
    many = 0
    while many < min(len(one), len(other)) and one[many] == other[many]:
        many += 1
    return many


def plain_root(back, word):
    """The root of a free word and how many times it is, by trying all lengths."""
    if not word:
        return None
    if freed(back, word + word) == ():
        return word, 1
    front = 0
    while back[word[front]] == word[-1 - front] and len(word) - 2 * front >= 2:
        front += 1
    core = word[front:len(word) - front]
    length = next(k for k in range(1, len(core) + 1) if len(core) % k == 0 and core[:k] * (len(core) // k) == core)
    return word[:front] + core[:length] + word[len(word) - front:], len(core) // length


def some_words(seed, most=2500):
    """Pairs of a back, a text and its word, by chance."""
    chance = random.Random(seed)
    for back in BACKS * 8:
        text = chance_text(chance, letter_names(back), 3).replace(" ", "")
        word = written_out(back, text)
        if len(word) <= most:
            yield back, text, word


class Giants(unittest.TestCase):

    def test_of_texts_and_words(self):
        for back, text, word in some_words(1):
            giant = giant_of_text(back=back, text=text)
            self.assertEqual((giant.back, giant.size), (back, len(word)))
            self.assertEqual(letters(giant), word)
            self.assertEqual(giant, told_out(back, word))
            if len(word) <= 200:
                self.assertEqual(giant_of_word(back=back, word=word), giant)
                self.assertEqual(giant_word(giant=giant), word)
            else:
                refused(self, TooMany(200), giant_word, giant)

    def test_one_giant_told_in_many_ways(self):
        back = (1, 0, 2)
        for texts in [["(ab)^6", "ababababab ab", "(abab)^3", "((ab)^3)^2", "(ab)^5ab", "a(ba)^5b",
                       "ab(ab)^5", "(1)^9(ab)^6", "(bA)^-6"],
                      ["a^1000", "(a^10)^100", "a(a^9a)^99a^9", "A^-1000", "(A^500)^-2"],
                      ["[a,b]", "Abab", "[b,a]^-1"], ["1", "(1)", "(1)^1000000", "[1,1]"]]:
            giants = [giant_of_text(back, text) for text in texts]
            for one in giants:
                for other in giants:
                    self.assertTrue(one == other)
                    self.assertIsNone(giant_apart(one, other))
        self.assertNotEqual(giant_of_text(back, "ab"), giant_of_text(back, "ba"))
        self.assertNotEqual(giant_of_text((1, 0), "a"), giant_of_text((0, 1), "a"))
        self.assertFalse(giant_of_text(back, "1") == ())
        self.assertFalse(giant_of_text(back, "a") == "a")

    def test_equality_and_apart(self):
        told = list(some_words(2, 600))
        for back in BACKS:
            mine = [(giant_of_text(back, text), word) for other, text, word in told if other == back]
            for one, word in mine:
                for other, other_word in mine:
                    self.assertEqual(one == other, word == other_word)
                    apart = None if word == other_word else alike_ahead(word, other_word)
                    self.assertEqual(giant_apart(one=one, other=other), apart)

    def test_parts_powers_and_joins(self):
        chance = random.Random(3)
        for back, text, word in some_words(3):
            giant = giant_of_text(back, text)
            start = chance.randint(0, len(word))
            end = chance.randint(start, len(word))
            part = giant_part(giant=giant, start=start, end=end)
            self.assertEqual(letters(part), word[start:end])
            self.assertEqual(letters(giant_undone(giant=part)), undone(back, word[start:end]))
            self.assertEqual(part, told_out(back, word[start:end]))
            self.assertEqual(giant_undone(part), told_out(back, undone(back, word[start:end])))
            self.assertEqual(letters(giant_joined(one=part, other=giant)), word[start:end] + word)
            self.assertEqual(giant_joined(part, giant), told_out(back, word[start:end] + word))
            self.assertEqual(giant_undone(giant_joined(part, giant)),
                             told_out(back, undone(back, word[start:end] + word)))
            self.assertEqual(giant_joined(giant_part(giant, 0, start), giant_part(giant, start, len(word))), giant)
            many = chance.choice([0, 1, 2, 3, 8, 9, 10, 11, 13, 40])
            power = giant_power(giant=part, many=many)
            self.assertEqual(power.size, (end - start) * many)
            if power.size < 4000:
                self.assertEqual(letters(power), word[start:end] * many)
                self.assertEqual(power, told_out(back, word[start:end] * many))
                self.assertEqual(giant_undone(power), told_out(back, undone(back, word[start:end]) * many))
            for place in {0, len(word) // 3, len(word) - 1} if word else ():
                self.assertEqual(giant_letter(giant=giant, place=place), word[place])

    def test_powers_of_short_words(self):
        chance = random.Random(12)
        for _ in range(400):
            back = chance.choice(BACKS)
            word = tuple(chance.randrange(len(back)) for _ in range(chance.randint(1, 12)))
            word = word * chance.choice([1, 1, 2]) + word[:chance.randint(0, 3)]
            many = chance.choice([9, 10, 11, 12, 13, 17, 30])
            power = giant_power(giant_of_word(back, word), many)
            self.assertEqual(power, told_out(back, word * many))
            self.assertEqual(giant_undone(power), told_out(back, undone(back, word * many)))

    def test_greatest_ones(self):
        back = (1, 0, 2)
        giant = giant_of_text(back, "(a^1000b)^1000000")
        self.assertEqual((giant.size, giant_letter(giant, 1000), giant_letter(giant, 999)), (1001000000, 2, 0))
        whole = giant_of_text(back, "((ab)^1000000)^500000")
        self.assertEqual(whole.size, MOST)
        self.assertEqual(whole, giant_power(giant_power(giant_of_text(back, "abab"), 500000), 500000))
        refused(self, BadText(20), giant_of_text, back, "((ab)^1000000)^500001")
        refused(self, BadText(21), giant_of_text, back, "((ab)^1000000)^500000b")
        refused(self, TooMany(MOST), giant_joined, whole, giant_of_text(back, "a"))
        self.assertEqual(giant_joined(whole, giant_of_text(back, "1")), whole)
        refused(self, TooMany(MOST), giant_power, whole, 2)
        refused(self, TooMany(MOST), giant_power, giant_part(whole, 0, 10 ** 6 + 1), 10 ** 6)
        self.assertEqual(giant_power(giant_part(whole, 0, 10 ** 6), 10 ** 6), whole)
        self.assertEqual(giant_power(whole, 0).size, 0)
        self.assertEqual(giant_power(giant_of_text(back, "1"), 1000000).size, 0)
        self.assertEqual(giant_of_text(back, "(a^1000000)^1000000").size, MOST)

    def test_great_ones_apart(self):
        back = (1, 0, 3, 2)
        whole = giant_of_text(back, "((ab)^1000(bA)^777)^100000")
        for at in (0, 1, 1999, 2000, 3554, 123456789, whole.size - 1):
            letter = giant_letter(whole, at)
            other = giant_of_word(back, ((letter + 1) % 4,))
            bent = giant_joined(giant_joined(giant_part(whole, 0, at), other), giant_part(whole, at + 1, whole.size))
            self.assertEqual(bent.size, whole.size)
            self.assertFalse(bent == whole)
            self.assertEqual(giant_apart(bent, whole), at)
            self.assertEqual(giant_apart(giant_part(whole, 0, at), whole), at)
            turned = giant_undone(bent)
            self.assertEqual(giant_apart(turned, giant_undone(whole)), whole.size - 1 - at)
        self.assertEqual(giant_apart(giant_part(whole, 3554, whole.size), whole), whole.size - 3554)
        self.assertEqual(giant_apart(giant_part(whole, 2, whole.size), whole), 1998)

    def test_words_put_together_again_and_again(self):
        back = (1, 0, 2)
        one, other = giant_of_text(back, "a"), giant_of_text(back, "b")
        sizes = [1, 1]
        while one.size + other.size <= MOST:
            one, other = giant_joined(one, other), one
            sizes.append(one.size)
        self.assertEqual(sizes[-1], 956722026041)
        # Each is what the two ahead make, either way round but for two letters.
        shorter = giant_part(one, 0, sizes[-3])
        self.assertEqual(giant_joined(other, shorter), one)
        self.assertEqual(giant_apart(giant_joined(shorter, other), one), one.size - 2)

    def test_attributes_stand_alone(self):
        text = "(ab)^3"
        giant = giant_of_text((1, 0, 2), text)
        self.assertIsInstance(giant, Giant)
        self.assertEqual(giant.size, 6)
        self.assertEqual(giant_word(giant), (0, 2, 0, 2, 0, 2))

    def test_wrong_inputs(self):
        giant = giant_of_text((1, 0), "a^5")
        other = giant_of_text((0, 1), "a^5")
        for thing in ODD_VALUES:
            if thing not in [(1, 0), (0, 1)]:
                refused(self, BadBack("none"), giant_of_text, thing, None)
                refused(self, BadBack("none"), giant_of_word, thing, None)
            if not isinstance(thing, str):
                refused(self, BadText(None), giant_of_text, (1, 0), thing)
            for function in (giant_word, giant_undone, giant_free, giant_core, giant_root):
                refused(self, BadGiant(None), function, thing)
            refused(self, BadGiant(None), giant_letter, thing, None)
            refused(self, BadGiant(None), giant_part, thing, None, None)
            refused(self, BadGiant(None), giant_power, thing, None)
            for function in (giant_joined, giant_apart, giants_alike, giants_commute):
                refused(self, BadGiant(None), function, thing, thing)
                refused(self, BadGiant(None), function, giant, thing)
                refused(self, BadGiant(None), function, thing, giant)
        for function in (giant_joined, giant_apart, giants_alike, giants_commute):
            refused(self, BadGiant("back"), function, giant, other)
        for word in [None, [0], (2,), (True,), (0,) * 201, "a"]:
            refused(self, BadWord("none"), giant_of_word, (1, 0), word)
        for thing in [None, True, -1, 5, "0", 1.0]:
            refused(self, BadNumber("place"), giant_letter, giant, thing)
        for thing in [None, True, -1, 6, "0", 1.0]:
            refused(self, BadNumber("start"), giant_part, giant, thing, None)
            refused(self, BadNumber("end"), giant_part, giant, 0, thing)
        refused(self, BadNumber("end"), giant_part, giant, 3, 2)
        self.assertEqual(giant_part(giant, 3, 3).size, 0)
        for thing in [None, True, -1, 1000001, "0", 1.0]:
            refused(self, BadNumber("many"), giant_power, giant, thing)
        self.assertEqual(giant_power(giant, 1000000).size, 5000000)
        refused(self, BadNumber("place"), giant_letter, giant_of_text((1, 0), "1"), 0)

    def test_places_of_texts(self):
        back = (1, 0)
        for text, at in [("a^1000000", None), ("a^1000001", 8), ("(a^1000000)^1000000a", 19), ("[(a^1000000)^250000,1]", None),
                         ("[(a^1000000)^500000,1]", None), ("[(a^1000000)^500001,1]", 18), ("a ", None), ("", 0), ("a+", 1)]:
            if at is None:
                self.assertGreater(giant_of_text(back, text).size, 0)
            else:
                refused(self, BadText(at), giant_of_text, back, text)


class FewLevels(unittest.TestCase):
    """What is put together above the greatest level is told rightly, too."""

    def test_all_again(self):
        old = blocks.MOST_LEVEL
        for most in (2, 4, 10):
            for module in (blocks, blockjoins, blockpowers):
                module.MOST_LEVEL = most
            try:
                for case in ("test_of_texts_and_words", "test_one_giant_told_in_many_ways", "test_equality_and_apart",
                             "test_parts_powers_and_joins", "test_powers_of_short_words"):
                    getattr(Giants(case), case)()
            finally:
                for module in (blocks, blockjoins, blockpowers):
                    module.MOST_LEVEL = old


class Free(unittest.TestCase):

    def test_example(self):
        back = (1, 0, 2)
        self.assertEqual(giant_free(giant_of_text(back, "(abA)^1000000")).size, 0)
        self.assertEqual(giant_word(giant_free(giant_of_text(back, "(abA)^999999"))), (0, 2, 1))

    def test_against_letters(self):
        for back, text, word in some_words(5):
            giant = giant_of_text(back, text)
            found = giant_free(giant=giant)
            self.assertEqual(letters(found), freed(back, word))
            self.assertEqual(found, told_out(back, freed(back, word)))
            self.assertEqual(giant_undone(found), giant_free(giant_undone(giant)))
            if len(word) <= 200:
                self.assertEqual(giant_word(found), free(back, word))
            self.assertEqual(giant_free(found), found)

    def test_alike(self):
        told = list(some_words(6, 400))
        for back in BACKS:
            mine = [(giant_of_text(back, text), freed(back, word)) for other, text, word in told if other == back]
            mine += [(giant_joined(one, giant_undone(other)), freed(back, word + undone(back, behind)))
                     for (one, word), (other, behind) in zip(mine, mine[1:])]
            for one, word in mine:
                for other, other_word in mine:
                    self.assertEqual(giants_alike(one=one, other=other), word == other_word)
                    self.assertEqual(giants_alike(one, other), giant_free(one) == giant_free(other))

    def test_great_ones(self):
        back = (1, 0, 3, 2, 4)
        whole = giant_of_text(back, "((ab)^1000(bA)^777c)^100000")
        self.assertEqual(giant_free(giant_joined(whole, giant_undone(whole))).size, 0)
        part = giant_part(whole, 1000, whole.size - 77)
        both = giant_joined(giant_undone(part), whole)
        self.assertTrue(giants_alike(both, giant_joined(giant_undone(part), whole)))
        ahead = giant_undone(giant_part(whole, 0, whole.size // 2 + 11))
        self.assertEqual(giant_free(giant_joined(ahead, whole)), giant_free(giant_part(whole, whole.size // 2 + 11, whole.size)))
        # Many times a word whose ends undo one another.
        self.assertEqual(giant_free(giant_of_text(back, "(abABaBA)^1000000")),
                         giant_of_text(back, "abAB^1000000aBA"))
        self.assertEqual(giant_free(giant_of_text(back, "(a^500b^3A^500)^1000000")),
                         giant_of_text(back, "a^500(b^3)^1000000A^500"))
        self.assertEqual(giant_free(giant_of_text(back, "(a^500cA^500)^999999")), giant_of_text(back, "a^500cA^500"))
        self.assertTrue(giants_alike(giant_of_text(back, "[a,b]^100000"), giant_of_text(back, "[b,a]^-100000")))
        self.assertFalse(giants_alike(giant_of_text(back, "[a,b]^100000"), giant_of_text(back, "[a,b]^99999")))
        self.assertEqual(giant_free(giant_of_text(back, "(aA)^1000000(bB)^5(c)^1000000")).size, 0)
        whole = giant_of_text(back, "[" * 15 + "a^1000b" + ",(bac)^1700a]" * 15)
        self.assertEqual(giant_free(giant_joined(whole, giant_undone(whole))).size, 0)
        self.assertEqual(giant_free(giant_undone(whole)), giant_undone(giant_free(whole)))

    def test_goals(self):
        for group in (Group(S3_BACK, S3_RULES), Group(D4_BACK, D4_RULES)):
            table = found_table(Subgroup(group, []))
            back = group.back
            names = letter_names(back)
            chance = random.Random(4)
            for _ in range(40):
                text = chance_text(chance, names, 2).replace(" ", "")
                word = written_out(back, text)
                giant = giant_of_text(back, text)
                self.assertEqual(giant_goal(group=group, table=table, giant=giant), goal(table, word))
                great = giant_power(giant, 997)
                order = next(k for k in range(1, 9) if goal(table, word * k) == 0)
                self.assertEqual(giant_goal(group, table, great), goal(table, word * (997 % order)))
            self.assertEqual(giant_goal(group, table, giant_of_text(back, "1")), 0)

    def test_wrong_goals(self):
        group = Group(S3_BACK, S3_RULES)
        table = found_table(Subgroup(group, []))
        wrong = Machine(2, table.ways, [])
        for thing in ODD_VALUES:
            refused(self, BadGroup(None), giant_goal, thing, thing, thing)
            refused(self, BadMachine(None), giant_goal, group, thing, thing)
            refused(self, BadGiant(None), giant_goal, group, wrong, thing)
        refused(self, BadMachine("table"), giant_goal, group, wrong, giant_of_text((1, 0), "a"))
        refused(self, BadGiant("back"), giant_goal, group, table, giant_of_text((1, 0), "a"))


class Roots(unittest.TestCase):

    def test_example(self):
        back = (1, 0, 2)
        root, many = giant_root(giant_of_text(back, "(Aba)^3"))
        self.assertEqual((giant_word(root), many), ((1, 2, 0), 1))
        root, many = giant_root(giant_of_text(back, "(baba)^5"))
        self.assertEqual((giant_word(root), many), ((2, 0), 10))

    def test_against_letters(self):
        chance = random.Random(8)
        for back, text, word in some_words(7, 800):
            giant = giant_power(giant_of_text(back, text), chance.choice([1, 1, 2, 3, 6]))
            left = freed(back, letters(giant))
            front, core = giant_core(giant=giant)
            ahead, inner = letters(front), letters(core)
            self.assertEqual(ahead + inner + undone(back, ahead), left)
            self.assertTrue(len(inner) < 2 or back[inner[0]] != inner[-1])
            found = giant_root(giant=giant)
            told = plain_root(back, left)
            if told is None:
                self.assertIsNone(found)
                continue
            self.assertIsInstance(found, tuple)
            self.assertEqual((letters(found[0]), found[1]), told)
            self.assertEqual(freed(back, told[0] * told[1]), left)
            self.assertEqual(giant_free(found[0]), found[0])

    def test_great_primes(self):
        back = (1, 0, 2)
        for length, many in ((999983, 999983), (7, 999983), (999983, 2), (1, 999983)):
            inner = f"a^{length - 1}b" if length > 1 else "a"
            whole = giant_of_text(back, f"({inner})^{many}")
            self.assertEqual(giant_root(whole), (giant_of_text(back, inner), many))
        # A prime number of letters, one of them another one: no power.
        whole = giant_of_text(back, "(a^1000b)^999a^31b")
        self.assertEqual(giant_root(whole), (whole, 1))
        self.assertEqual(giant_root(giant_of_text(back, "(a^999983)^999979")), (giant_of_text(back, "a"), 999983 * 999979))
        self.assertEqual(giant_root(giant_of_text(back, "((ab)^1000000)^500000")), (giant_of_text(back, "ab"), 5 * 10 ** 11))
        conjugate = giant_of_text(back, "b(a^6b)^99991b")
        self.assertEqual(giant_root(conjugate), (giant_of_text(back, "ba^6"), 99991))

    def test_what_undoes_itself(self):
        back = (1, 0, 2, 3)
        giant = giant_of_text(back, "a^1000bA^1000")
        self.assertEqual(giant_root(giant), (giant, 1))
        self.assertEqual(giant_core(giant), (giant_of_text(back, "a^1000"), giant_of_text(back, "b")))
        self.assertEqual(giant_root(giant_of_text(back, "(a^9bA^9)^7")), (giant_of_text(back, "a^9bA^9"), 1))
        self.assertIsNone(giant_root(giant_of_text(back, "(a^9bA^9)^8")))
        self.assertIsNone(giant_root(giant_of_text(back, "1")))
        empty = giant_of_text(back, "1")
        self.assertEqual(giant_core(giant_of_text(back, "aA")), (empty, empty))
        self.assertEqual(giant_root(giant_of_text(back, "(bc)^10")), (giant_of_text(back, "bc"), 10))

    def test_commuting(self):
        told = list(some_words(9, 150))
        for back in BACKS:
            mine = [(giant_of_text(back, text), word) for other, text, word in told if other == back]
            for one, word in mine:
                for other, other_word in mine:
                    alike = freed(back, word + other_word) == freed(back, other_word + word)
                    self.assertEqual(giants_commute(one=one, other=other), alike)
                    self.assertEqual(alike, self.by_roots(one, other))
        back = (1, 0, 2)
        whole = giant_of_text(back, "((ab)^1000000)^499999")
        self.assertTrue(giants_commute(whole, giant_of_text(back, "(bA)^77")))
        self.assertFalse(giants_commute(whole, giant_of_text(back, "(ba)^77")))
        self.assertTrue(giants_commute(whole, giant_of_text(back, "(bA)^500000(ab)^500000")))
        self.assertTrue(giants_commute(whole, whole))
        self.assertFalse(giants_commute(giant_part(whole, 0, whole.size - 1), whole))

    def by_roots(self, one, other):
        """Whether both are powers of one word, or of what undoes it, or alike with ()."""
        first, second = giant_root(one), giant_root(other)
        return first is None or second is None or second[0] in (first[0], giant_undone(first[0]))

    def test_powers_of_one_word(self):
        back = (1, 0, 3, 2)
        for one, other in ((6, 15), (4, 4), (9, 2)):
            root = giant_root(giant_of_text(back, f"a(ab)^{one}A"))
            self.assertEqual(root, (giant_of_text(back, "aabA"), one))
            self.assertTrue(giants_alike(giant_power(root[0], one), giant_of_text(back, f"a(ab)^{one}A")))
            self.assertTrue(giants_commute(giant_power(root[0], one), giant_power(giant_undone(root[0]), other)))


if __name__ == "__main__":
    unittest.main()
