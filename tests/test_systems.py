"""Points 30, 34 and 35: systems, their least clash, rows cleared, differences."""

import itertools
import random
import unittest

from gatewords.clashes import least_clash
from gatewords.clearing import clear_of, reduced_rows
from gatewords.differences import difference_path, short_differences
from gatewords.errors import BadMachine, BadNumber, BadSystem, BadWord, TooMany
from gatewords.groups import Group
from gatewords.leastforms import is_least_form
from gatewords.letters import rank
from gatewords.machines import Machine, takes
from gatewords.rowmakers import all_rows, free_rows, just_rows, no_rows
from gatewords.spans import spanned
from gatewords.systems import System, is_reduced, reduced
from tests.helpers import ODD_VALUES, chance_machine, refused, rows


def stands_in(one, other):
    """Whether a word stands in another one."""
    return any(other[k:k + len(one)] == one for k in range(len(other) - len(one) + 1))


def chance_system(seed, back, most=3, rules=4):
    """A system by chance, always the same for the same numbers."""
    chance = random.Random(seed)
    words = rows(len(back), most)
    found = []
    for left in sorted(chance.sample(words[1:], min(rules, len(words) - 1)), key=rank):
        if not any(stands_in(one, left) for one, _ in found):
            found.append((left, chance.choice(words[:words.index(left)])))
    return System(back, found)


def plain_reduced(system, word):
    """The reduced word, by the words of the document."""
    while True:
        ends = [(at + len(left), at, left, right) for left, right in system.rules
                for at in range(len(word)) if word[at:at + len(left)] == left]
        if not ends:
            return word
        end, at, left, right = min(ends)
        word = word[:at] + right + word[end:]


def all_reduced(system, word, known):
    """All reduced words to which replacing leads a word in any way."""
    if word not in known:
        found = set()
        for left, right in system.rules:
            for at in range(len(word) - len(left) + 1):
                if word[at:at + len(left)] == left:
                    found |= all_reduced(system, word[:at] + right + word[at + len(left):], known)
        known[word] = found or {word}
    return known[word]


class Systems(unittest.TestCase):

    def test_attributes_and_equality(self):
        rules = [((0, 1), ()), ((1, 0), [])]
        refused(self, BadSystem("rules"), System, (1, 0), rules)
        rules = [((0, 1), ()), ((1, 0), ())]
        system = System(back=(1, 0), rules=rules)
        rules.append("more")
        self.assertEqual((system.back, system.rules), ((1, 0), (((0, 1), ()), ((1, 0), ()))))
        self.assertEqual(system, System((1, 0), tuple(rules[:2])))
        self.assertNotEqual(system, System((0, 1), rules[:2]))
        self.assertNotEqual(system, System((1, 0), rules[:1]))
        self.assertFalse(system == Group((1, 0), rules[:2]))
        self.assertFalse(system == rules[:2])
        self.assertTrue(system != None)

    def test_wrong_parts(self):
        for thing in ODD_VALUES:
            if thing not in [(0, 1), (1, 0)]:
                refused(self, BadSystem("back"), System, thing, None)
        for thing in ODD_VALUES:
            if thing not in ([], ()):
                refused(self, BadSystem("rules"), System, (1, 0), thing)
        for rules in ([((0,), (0,))], [((0,), (1,))], [((), ())], [((0, 2), ())], [((0, True), ())],
                      [((1, 0), ()), ((0, 1), ())], [((0, 1), ()), ((0, 1), ())],
                      [((0, 1), ()), ((1, 0, 1), ())], [((0,), ()), ((1, 0), ())], [((0,), ()), ((0, 1), ())],
                      [((1,), ()), ((0, 1, 0), ())], [[(0, 1), ()]], [((0, 1), (), ())]):
            refused(self, BadSystem("rules"), System, (1, 0), rules)
        self.assertEqual(len(System((1, 0), [((0, 1), (0, 0)), ((1, 0), (0, 1))]).rules), 2)

    def test_limits(self):
        words = list(itertools.product(range(12), repeat=2))
        back = tuple(range(12))
        self.assertEqual(len(System(back, [(word, ()) for word in words[:140]]).rules), 140)
        refused(self, BadSystem("rules"), System, back, [(word, ()) for word in words[:141]])
        self.assertEqual(len(System((1, 0), [((0,) * 40, (0,) * 39)]).rules), 1)
        refused(self, BadSystem("rules"), System, (1, 0), [((0,) * 41, ())])
        refused(self, BadSystem("rules"), System, (1, 0), [((0,) * 41, (0,) * 41)])

    def test_reduced_takes_what_ends_first(self):
        # Both stand in (0, 0, 1, 1): (0, 0, 1) ends first, though (0, 1, 1) is told, too.
        system = System((0, 1), [((0, 0, 1), (1,)), ((0, 1, 1), ())])
        self.assertEqual(reduced(system, (0, 0, 1, 1)), (1, 1))
        self.assertEqual(reduced(system=system, word=(0, 0, 0, 1, 1, 0)), (0, 1, 1, 0)[3:])
        for seed in range(60):
            system = chance_system(seed, [(1, 0), (0, 1, 2)][seed % 2])
            for word in rows(len(system.back), 5)[::3]:
                found = reduced(system, word)
                self.assertEqual(found, plain_reduced(system, word))
                self.assertTrue(is_reduced(system, found))
                self.assertEqual(is_reduced(system, word), found == word)

    def test_reduced_of_long_words(self):
        system = System((1, 0), [((0, 1), ()), ((1, 0), ())])
        self.assertEqual(reduced(system, (0,) * 30000 + (1,) * 30001), (1,))
        self.assertFalse(is_reduced(system, (0,) * 30000 + (1,)))
        self.assertTrue(is_reduced(system=system, word=(0,) * 30000))

    def test_wrong_words(self):
        system = System((1, 0), [])
        for function in (reduced, is_reduced):
            for thing in ODD_VALUES:
                refused(self, BadSystem(None), function, thing, None)
            for thing in [None, [0], 0, "", (2,), (True,), (0, None), ((),)]:
                refused(self, BadWord("not a word"), function, system, thing)


class Clashes(unittest.TestCase):

    def test_example(self):
        system = System((1, 0), [((0, 1), ()), ((1, 0), ()), ((0, 0, 0), ())])
        self.assertEqual(least_clash(system=system), ((0, 0, 0, 1), (1,), (0, 0)))
        self.assertIsNone(least_clash(System((1, 0), [((0, 1), ()), ((1, 0), ())])))
        self.assertIsNone(least_clash(System((1, 0), [])))
        for thing in ODD_VALUES:
            refused(self, BadSystem(None), least_clash, thing)

    def test_least_of_all_words_led_apart(self):
        clashing = 0
        for seed in range(120):
            back = [(1, 0), (0, 1, 2)][seed % 2]
            system = chance_system(seed, back, 3, 1 + seed % 5)
            known = {}
            most = 6 if len(back) == 2 else 5
            apart = [word for word in rows(len(back), most) if len(all_reduced(system, word, known)) > 1]
            found = least_clash(system)
            # Left sides have at most three letters, so that words that overlap have at most five.
            if found is None:
                self.assertEqual(apart, [])
                continue
            clashing += 1
            word, one, other = found
            self.assertEqual(apart[0], word)
            self.assertLessEqual({one, other}, all_reduced(system, word, known))
            left = [rule for rule in system.rules if word[:len(rule[0])] == rule[0]][0]
            right = [rule for rule in system.rules if word[-len(rule[0]):] == rule[0]][0]
            self.assertEqual(one, plain_reduced(system, left[1] + word[len(left[0]):]))
            self.assertEqual(other, plain_reduced(system, word[:-len(right[0])] + right[1]))
            self.assertNotEqual(one, other)
        self.assertTrue(20 < clashing < 110)

    def test_a_left_side_over_itself(self):
        self.assertEqual(least_clash(System((0, 1), [((0, 1, 0), ())])), ((0, 1, 0, 1, 0), (1, 0), (0, 1)))


class Clearing(unittest.TestCase):

    def test_against_all_short_rows(self):
        for seed in range(60):
            machine = chance_machine(seed, 2, 1 + seed % 4, 0.4, 0.3)
            clear = clear_of(machine=machine)
            self.assertTrue(is_least_form(clear))
            taken = {row for row in rows(2, 6) if takes(machine, row)}
            for row in rows(2, 6):
                parts = {row[k:m] for k in range(len(row) + 1) for m in range(k, len(row) + 1)}
                self.assertEqual(takes(clear, row), not parts & taken)

    def test_plain_ones(self):
        self.assertEqual(clear_of(no_rows(3)), all_rows(3))
        self.assertEqual(clear_of(just_rows(3, [()])), no_rows(3))
        self.assertEqual(clear_of(just_rows(3, [(2,)])).ways, ((0, 0, None),))
        self.assertEqual(clear_of(just_rows(2, [(0, 1), (1, 0)])), free_rows(2, [(0, 1), (1, 0)]))
        many = Machine(169, [[None] * 168 + [0]], [0])
        self.assertEqual(clear_of(many), no_rows(169))
        for thing in ODD_VALUES:
            refused(self, BadMachine(None), clear_of, thing)

    def test_reduced_rows(self):
        for seed in range(20):
            system = chance_system(seed, (0, 1))
            machine = reduced_rows(system=system)
            self.assertTrue(is_least_form(machine))
            for word in rows(2, 6):
                self.assertEqual(takes(machine, word), is_reduced(system, word))
        for thing in ODD_VALUES:
            refused(self, BadSystem(None), reduced_rows, thing)

    def test_reduced_rows_too_many(self):
        chance = random.Random(1)
        words = sorted({tuple(chance.randrange(12) for _ in range(40)) for _ in range(140)})
        system = System(tuple(range(12)), [(word, ()) for word in words])
        refused(self, TooMany(2000), reduced_rows, system)


class Differences(unittest.TestCase):

    def test_example(self):
        system = spanned(Group((1, 0), [((0, 0, 0), ())]), 4)
        self.assertEqual(difference_path(system, (0, 0), (1,)), [(), (0,), ()])
        self.assertEqual(difference_path(system=system, one=(), other=()), [()])
        self.assertEqual(short_differences(system, 0), [(), (0,), (1,)])
        self.assertEqual(short_differences(system=system, short=8), [(), (0,), (1,)])

    def test_each_difference(self):
        for seed in range(12):
            system = chance_system(seed, (1, 0, 2))
            for one, other in [((0, 1), (2, 2, 0, 1)), ((), (0, 2)), ((1, 1, 0), (2,)), ((2, 0), (2, 0))]:
                path = difference_path(system, one, other)
                self.assertEqual(len(path), max(len(one), len(other)) + 1)
                self.assertEqual(path[0], ())
                for k in range(len(path) - 1):
                    ahead = tuple(system.back[x] for x in one[k:k + 1])
                    self.assertEqual(path[k + 1], plain_reduced(system, ahead + path[k] + other[k:k + 1]))

    def test_short_ones_against_all_words(self):
        groups = [Group((1, 0), [((0, 0, 0, 0), ())]), Group((0, 1), [((0, 1, 0), (1, 0, 1))])]
        for group in groups:
            system = spanned(group, 6)
            for short in range(4):
                told = set()
                for word in rows(2, short):
                    if is_reduced(system, word):
                        for letter in range(2):
                            told |= set(difference_path(system, word, reduced(system, word + (letter,))))
                self.assertEqual(short_differences(system, short), sorted(told, key=rank))

    def test_wrong_inputs(self):
        system = System((1, 0), [])
        for thing in ODD_VALUES:
            refused(self, BadSystem(None), difference_path, thing, None, None)
            refused(self, BadSystem(None), short_differences, thing, None)
        refused(self, BadWord("one"), difference_path, system, (2,), None)
        refused(self, BadWord("one"), difference_path, system, (2,), (0,))
        refused(self, BadWord("one"), difference_path, system, [0], (0,))
        refused(self, BadWord("other"), difference_path, system, (1,), (True,))
        for thing in [None, True, -1, 9, "1", 1.0]:
            refused(self, BadNumber("short"), short_differences, system, thing)
        # The number is judged ahead of what would be too many.
        refused(self, BadNumber("short"), short_differences, System(tuple(range(12)), []), 9)

    def test_most_short_words(self):
        back = tuple(range(8))
        # All words of at most 4 of 8 letters are 4681; rules take just as many away as are too many.
        lefts = [left for left in itertools.product(range(8), repeat=3) if len(set(left)) == 3]
        for goal, wrong in ((3001, TooMany(3000)), (3000, TooMany(200))):
            many = 90
            while self.words_left([(left, ()) for left in lefts[:many]]) - goal > 140 - many:
                many += 1
            rules = [(left, ()) for left in lefts[:many]]
            left_over = self.words_left(rules) - goal
            self.assertTrue(0 <= left_over <= 140 - many)
            more = [word for word in itertools.product(range(8), repeat=4)
                    if not any(stands_in(left, word) for left, _ in rules)][:left_over]
            self.assertTrue(0 <= left_over and len(rules) + left_over <= 140, left_over)
            system = System(back, rules + [(word, ()) for word in more])
            refused(self, wrong, short_differences, system, 4)

    def words_left(self, rules):
        """How many words of at most 4 of 8 letters have none of the left sides in them."""
        barred = {left for left, _ in rules}
        return 1 + 8 + 64 + (512 - len(barred)) + sum(
            word[:3] not in barred and word[1:] not in barred for word in itertools.product(range(8), repeat=4))

    def test_most_differences(self):
        # Of letters without rules: the words (), k, (a, a) and (a, a, k), and so on.
        system = System(tuple(range(5)), [])
        self.assertEqual(len(short_differences(system, 2)), 1 + 5 + 5 + 25 + 25 + 125)
        refused(self, TooMany(200), short_differences, System(tuple(range(6)), []), 2)
        system = chance_system(48, tuple(range(6)), 2, 8)
        self.assertEqual(len(short_differences(system, 2)), 200)
        self.assertEqual(len(self.plain_differences(system, 2)), 200)
        system = chance_system(28, tuple(range(6)), 2, 8)
        self.assertEqual(len(self.plain_differences(system, 2)), 201)
        refused(self, TooMany(200), short_differences, system, 2)

    def plain_differences(self, system, short):
        """The differences of short words, by the words of the document."""
        found = set()
        for word in rows(len(system.back), short):
            if is_reduced(system, word):
                for letter in range(len(system.back)):
                    found |= set(difference_path(system, word, reduced(system, word + (letter,))))
        return found


if __name__ == "__main__":
    unittest.main()
