"""Points 60, 61 and 67: subgroups, their layers, tables of cosets."""

import itertools
import random
import unittest
from fractions import Fraction
from unittest import mock

from gatewords.cosettables import found_table, is_table, table_gens, table_takes
from gatewords.errors import BadGroup, BadMachine, BadNumber, BadSpelling, BadSubgroup, BadWord, TooMany
from gatewords.groups import Group
from gatewords.layers import layer, layer_spelling
from gatewords.leastforms import is_least_form
from gatewords.letters import rank
from gatewords.machines import Machine, goal
from gatewords.settling import complete
from gatewords.subgroups import Subgroup, both_gens, spelled, spelling_free, spelling_undone
from gatewords.systems import reduced
from tests.examples import D4_BACK, D4_GENS, D4_RULES, S3_BACK, S3_GENS, S3_RULES, S4_BACK, S4_GENS, S4_RULES
from tests.helpers import ODD_VALUES, refused, rows

FREE = Group((1, 0, 3, 2), [])
PLANE = Group((1, 0, 3, 2), [((0, 2), (2, 0))])
S3 = Group(S3_BACK, S3_RULES)
S4 = Group(S4_BACK, S4_RULES)
D4 = Group(D4_BACK, D4_RULES)
# Letter 2 makes three of each letter 0.
TREBLING = Group((1, 0, 3, 2), [((2, 0, 3), (0, 0, 0))])


def undone(group, word):
    return tuple(group.back[k] for k in word[::-1])


def folded(group, many, links):
    """The ways of the machine that folding makes of links, by the words of the document."""
    leads = list(range(many))

    def standing(state):
        while leads[state] != state:
            state = leads[state]
        return state

    changed = True
    while changed:
        changed = False
        ways = {}
        both = links + [(to, group.back[k], state) for state, k, to in links]
        for state, k, to in both:
            state, to = standing(state), standing(to)
            other = ways.setdefault((state, k), to)
            if standing(other) != to:
                low, high = sorted([standing(other), to])
                leads[high] = low
                changed = True
    ways = {(standing(state), k): standing(to) for (state, k), to in ways.items()}
    order = [0]
    for state in order:
        order.extend(to for to in dict.fromkeys(ways.get((state, k)) for k in range(len(group.back)))
                     if to is not None and to not in order)
    return [[order.index(ways[state, k]) if (state, k) in ways else None for k in range(len(group.back))]
            for state in order]


def with_rounds(links, many, state, words):
    """The links with rounds of words at a state, and how many states there are then."""
    for word in words:
        here = state
        for place, k in enumerate(word):
            to = state if place == len(word) - 1 else many
            many += to == many
            links.append((here, k, to))
            here = to
    return many


def plain_layers(sub, most):
    """The ways of the layers 0 to most, by the words of the document."""
    group = sub.group
    links = []
    ways = folded(group, with_rounds(links, 1, 0, sub.gens), links)
    words = [one + undone(group, other) for one, other in group.rules]
    rounds = [word[k:] + word[:k] for word in words for k in range(len(word))]
    rounds += [(k, k) for k in range(len(group.back)) if group.back[k] == k]
    found = [ways]
    for _ in range(most):
        links = [(state, k, to) for state, way in enumerate(ways) for k, to in enumerate(way) if to is not None]
        many = len(ways)
        for state in range(len(ways)):
            many = with_rounds(links, many, state, rounds)
        ways = folded(group, many, links)
        found.append(ways)
    return found


def chance_subgroup(seed):
    """A subgroup by chance of a group by chance."""
    chance = random.Random(seed)
    back = chance.choice([(1, 0), (0, 1), (1, 0, 2), (0, 1, 2), (1, 0, 3, 2)])

    def word(most):
        return tuple(chance.randrange(len(back)) for _ in range(chance.randint(0, most)))

    group = Group(back, [(word(4), word(2)) for _ in range(chance.randint(0, 2))])
    return Subgroup(group, [word(4) for _ in range(chance.randint(0, 3))])


def closed_words(machine, seed, many):
    """Some words that lead a machine from 0 to 0, by chance."""
    chance = random.Random(seed)
    found = [()]
    for _ in range(many):
        state, word = 0, ()
        while len(word) < 60 and not (word and state == 0 and chance.random() < 0.4):
            letters = [k for k, to in enumerate(machine.ways[state]) if to is not None]
            if not letters:
                break
            word += (chance.choice(letters),)
            state = machine.ways[state][word[-1]]
        if state == 0:
            found.append(word)
    return found


def moved(gens, word):
    """How a word moves the points that permutations move."""
    points = tuple(range(len(gens[0])))
    for letter in word:
        points = tuple(gens[letter][point] for point in points)
    return points


def spread_of(gens, words):
    """All permutations that words come to, one behind another."""
    start = tuple(range(len(gens[0])))
    found = {start}
    waiting = [start]
    while waiting:
        here = waiting.pop()
        for word in words:
            to = here
            for letter in word:
                to = tuple(gens[letter][point] for point in to)
            if to not in found:
                found.add(to)
                waiting.append(to)
    return found


def affine(base, word):
    """What letter 0, one more, and letter 2, base times as much, make of 0 and 1, the last letter first."""
    points = [Fraction(0), Fraction(1)]
    for letter in word[::-1]:
        points = [[x + 1, x - 1, x * base, x / base][letter] for x in points]
    return points


class Subgroups(unittest.TestCase):

    def test_attributes_and_equality(self):
        gens = [(0, 0), (2,)]
        sub = Subgroup(group=FREE, gens=gens)
        gens.append((3,))
        self.assertEqual((sub.group, sub.gens), (FREE, ((0, 0), (2,))))
        self.assertEqual(sub, Subgroup(Group((1, 0, 3, 2), ()), ((0, 0), (2,))))
        self.assertNotEqual(sub, Subgroup(PLANE, [(0, 0), (2,)]))
        self.assertNotEqual(sub, Subgroup(FREE, [(2,), (0, 0)]))
        self.assertFalse(sub == FREE)
        self.assertEqual(Subgroup(FREE, []).gens, ())

    def test_limits(self):
        self.assertEqual(len(Subgroup(FREE, [(0,) * 40] * 12).gens), 12)
        refused(self, BadSubgroup("gens"), Subgroup, FREE, [(0,) * 40] * 13)
        refused(self, BadSubgroup("gens"), Subgroup, FREE, [(0,) * 41])

    def test_wrong_parts(self):
        for thing in ODD_VALUES:
            refused(self, BadSubgroup("group"), Subgroup, thing, None)
        for thing in [None, 0, "", {}, [0], [[0]], [(4,)], [(True,)], [None], ((0,), 0)]:
            refused(self, BadSubgroup("gens"), Subgroup, FREE, thing)

    def test_spellings(self):
        sub = Subgroup(FREE, [(0, 0, 2), (), (3,)])
        self.assertEqual(spelled(sub=sub, spelling=(0, 5, 1)), (0, 0, 2, 2, 3, 1, 1))
        self.assertEqual(spelled(sub, ()), ())
        self.assertEqual(spelled(sub, (2, 3, 2)), ())
        self.assertEqual(spelled(sub, (0, 1)), (0, 0, 2, 3, 1, 1))
        self.assertEqual(len(spelled(sub, (0,) * 5000)), 15000)
        self.assertEqual(spelling_undone(sub=sub, spelling=(0, 5, 1, 2)), (3, 0, 4, 1))
        self.assertEqual(spelling_free(sub=sub, spelling=(4, 0, 1, 5, 2, 2, 3)), (2,))
        for spelling in itertools.product(range(6), repeat=3):
            self.assertEqual(spelled(sub, spelling_undone(sub, spelling)), undone(FREE, spelled(sub, spelling)))

    def test_wrong_spellings(self):
        sub = Subgroup(FREE, [(0, 0), (2,)])
        for function in (spelled, spelling_undone, spelling_free):
            for thing in ODD_VALUES:
                refused(self, BadSubgroup(None), function, thing, None)
            for thing in [None, [0], 0, (4,), (-1,), (True,), ("0",), (0.0,)]:
                refused(self, BadSpelling("none"), function, sub, thing)
            refused(self, BadSpelling("none"), function, Subgroup(FREE, []), (0,))

    def test_both_gens(self):
        one, other = Subgroup(FREE, [(0,)] * 7), Subgroup(FREE, [(2,)] * 5)
        self.assertEqual(both_gens(sub=one, other=other), Subgroup(FREE, [(0,)] * 7 + [(2,)] * 5))
        refused(self, TooMany(12), both_gens, one, Subgroup(FREE, [(2,)] * 6))
        refused(self, BadSubgroup("group"), both_gens, one, Subgroup(PLANE, [(2,)] * 6))
        for thing in ODD_VALUES:
            refused(self, BadSubgroup(None), both_gens, thing, thing)
            refused(self, BadSubgroup(None), both_gens, one, thing)
            refused(self, BadSubgroup(None), both_gens, thing, one)


class Layers(unittest.TestCase):

    def test_example(self):
        sub = Subgroup(FREE, [(0, 0), (2,)])
        for number in range(9):
            self.assertEqual(layer(sub=sub, number=number), Machine(4, [(1, 1, 0, 0), (0, 0, None, None)], [0]))
        sub = Subgroup(PLANE, [(0, 0), (2,)])
        self.assertEqual(layer(sub, 1).ways, ((1, 1, 0, 0), (0, 0, 1, 1)))

    def test_against_plain_folding(self):
        for seed in range(60):
            sub = chance_subgroup(seed)
            for number, ways in enumerate(plain_layers(sub, 2)):
                machine = layer(sub, number)
                self.assertEqual([list(way) for way in machine.ways], ways)
                self.assertEqual(machine.ends, (0,))
                self.assertTrue(is_least_form(machine))

    def test_words_and_rounds_that_undo_themselves(self):
        # The word (0, 1) is no round without its tail; (2, 2) is told of by each layer.
        group = Group((1, 0, 2), [])
        self.assertEqual(layer(Subgroup(group, [(0, 1)]), 0).ways, ((1, None, None), (None, 0, None)))
        grown = [len(layer(Subgroup(group, []), number).ways) for number in range(4)]
        self.assertEqual(grown, [1, 2, 2, 2])
        self.assertEqual(layer(Subgroup(Group((0, 1), []), []), 2).ways,
                         ((1, 2), (0, 3), (4, 0), (None, 1), (2, None)))

    def test_rules_turned_about(self):
        # From the far end of (0,) only the word that begins with the third letter leads on.
        group = Group((1, 0, 3, 2), [((0, 2, 0), ())])
        sub = Subgroup(group, [(0,)])
        self.assertEqual([list(way) for way in layer(sub, 1).ways], plain_layers(sub, 1)[1])
        self.assertEqual(layer(sub, 1).ways, ((0, 0, 0, 0),))

    def test_many_states(self):
        back = tuple(range(11))
        word = (0, 1) * 10
        sub = Subgroup(Group(back, []), [word])
        self.assertEqual(len(layer(sub, 0).ways), 20)
        self.assertEqual(len(layer(sub, 2).ways), 2000)
        refused(self, TooMany(2000), layer, sub, 3)
        refused(self, TooMany(2000), layer, sub, 8)
        refused(self, TooMany(2000), layer_spelling, sub, 3, word)
        self.assertEqual(len(layer(Subgroup(sub.group, [word + (2,)]), 1).ways), 210)
        refused(self, TooMany(2000), layer, Subgroup(sub.group, [word + (2,)]), 2)
        # States that folding makes one count once.
        self.assertEqual(len(layer(Subgroup(sub.group, [word] * 12), 2).ways), 2000)
        refused(self, TooMany(2000), layer, Subgroup(sub.group, [word + (2,)] * 12), 2)

    def test_wrong_inputs(self):
        sub = Subgroup(FREE, [(0,)])
        for thing in ODD_VALUES:
            refused(self, BadSubgroup(None), layer, thing, None)
            refused(self, BadSubgroup(None), layer_spelling, thing, None, None)
        for thing in [None, True, -1, 9, "0", 1.0]:
            refused(self, BadNumber("number"), layer, sub, thing)
            refused(self, BadNumber("number"), layer_spelling, sub, thing, None)
        # The word is judged ahead of what would be too many.
        wide = Subgroup(Group(tuple(range(11)), []), [(0, 1) * 10])
        for word in [None, [0], (11,), (True,), (0,) * 201]:
            refused(self, BadWord("none"), layer_spelling, wide, 8, word)
        refused(self, TooMany(2000), layer_spelling, wide, 8, ())

    def test_spellings(self):
        told = 0
        for seed in range(60):
            sub = chance_subgroup(seed)
            whole = None
            try:
                whole = complete(sub.group, 12)
            except TooMany:
                pass
            for number in range(3):
                machine = layer(sub, number)
                for word in closed_words(machine, seed, 20):
                    spelling = layer_spelling(sub=sub, number=number, word=word)
                    if whole is not None:
                        self.assertEqual(reduced(whole, spelled(sub, spelling)), reduced(whole, word))
                        told += 1
                for word in rows(len(sub.group.back), 2):
                    if goal(machine, word) != 0:
                        self.assertIsNone(layer_spelling(sub, number, word))
        self.assertGreater(told, 500)

    def test_spellings_of_words_put_together(self):
        # However long: of these words spelled is just the word.
        sub = Subgroup(TREBLING, [(0,), (2, 2, 3), ()])
        for word in [(0,) * 200, (1,) * 199, (2, 2, 3, 0, 1) * 40, ()]:
            spelling = layer_spelling(sub, 5, word)
            self.assertEqual(reduced(complete(Group(FREE.back, []), 2), spelled(sub, spelling)),
                             reduced(complete(Group(FREE.back, []), 2), word))

    def test_long_spellings(self):
        ten = Group(FREE.back, [((2, 0, 3), (0,) * 10)])
        word = (2,) * 3 + (0,) + (3,) * 3
        self.assertEqual(affine(10, spelled(Subgroup(ten, [(0,)]), (0,) * 1000)), affine(10, word))
        self.told_or_too_many(Subgroup(ten, [(0,)]), 3, word, 10)
        # What is alike with this word is the gen 6 ** 4 times; no spelling of it has fewer numbers.
        six = Group(FREE.back, [((2, 0, 3), (0,) * 6)])
        word = (2,) * 4 + (0,) + (3,) * 4
        self.told_or_too_many(Subgroup(six, [(0,)]), 4, word, 6)
        self.told_or_too_many(Subgroup(six, [(0,)]), 4, (1,) + word, 6)
        self.assertIsNone(layer_spelling(Subgroup(six, [(0,)]), 3, word))

    def told_or_too_many(self, sub, number, word, base):
        """Ask for a spelling that has 1000 numbers at least, so that it may be refused."""
        try:
            spelling = layer_spelling(sub, number, word)
        except TooMany as error:
            self.assertEqual(error.most, 1000)
        else:
            self.assertGreaterEqual(len(spelling), 1000)
            self.assertEqual(affine(base, spelled(sub, spelling)), affine(base, word))

    def test_short_spellings_are_told_always(self):
        group = Group(FREE.back, [((2, 0, 3), (0,) * 6)])
        word = (2,) * 4 + (0,) + (3,) * 4
        two = Subgroup(group, [(0,), word])
        three = Subgroup(group, [(), (0,), word])
        for freely in (word, (2, 2, 0, 1, 2, 2, 0) + (3,) * 4, (0, 2, 3) + word, word + (1,) + word,
                       word[:5] + (0, 1) + word[5:] + (1, 0) + word):
            for sub in (two, three):
                spelling = layer_spelling(sub, 4, freely)
                self.assertEqual(affine(6, spelled(sub, spelling)), affine(6, freely))
        longer = (2, 2, 3, 2, 2, 2) + (0,) + (3,) * 4 + (1, 1) + undone(group, word) + (2, 3, 0) + word
        spelling = layer_spelling(two, 4, longer)
        self.assertEqual(affine(6, spelled(two, spelling)), affine(6, longer))

    def test_short_spellings_where_all_others_are_too_long(self):
        group = Group(FREE.back, [])
        two = Subgroup(group, [(0, 2), (2, 2, 0)])
        three = Subgroup(group, [(0, 2), (2, 2, 0), (3, 3)])
        with mock.patch("gatewords.folding.MOST_SPELLED", 0):
            for sub, most in ((two, 6), (three, 3)):
                for spelling in itertools.product(range(len(sub.gens) * 2), repeat=most):
                    if spelling != spelling_free(sub, spelling) or sum(spelling) % 7:
                        continue
                    # With letters put in, so that it is no words of gens side by side.
                    literal = spelled(sub, spelling)
                    word = literal[:1] + (group.back[literal[0]], literal[0]) + literal[1:]
                    found = layer_spelling(sub, 0, word)
                    self.assertEqual(reduced(complete(group, 2), spelled(sub, found)),
                                     reduced(complete(group, 2), word))
            longer = spelled(three, (0, 2, 0, 2))
            refused(self, TooMany(1000), layer_spelling, three, 0, (0, 1) + longer)
            longer = spelled(two, (0, 2, 0, 2, 0, 0, 0))
            refused(self, TooMany(1000), layer_spelling, two, 0, (0, 1) + longer)
            # Words of gens side by side are told, however many.
            longer = spelled(three, (0, 2, 5, 1, 3, 4) * 10)
            self.assertEqual(spelled(three, layer_spelling(three, 0, longer)), spelled(three, (0, 2, 5, 1, 3, 4) * 10))

    def test_members_of_finite_groups(self):
        for group, gens in ((S3, S3_GENS), (S4, S4_GENS), (D4, D4_GENS)):
            for seed in range(6):
                chance = random.Random(seed)
                many = len(group.back)
                words = [tuple(chance.randrange(many) for _ in range(chance.randint(1, 4))) for _ in range(2)]
                sub = Subgroup(group, words)
                members = spread_of(gens, words + [undone(group, word) for word in words])
                last = [layer(sub, number) for number in range(9)]
                for word in rows(many, 4):
                    led = [goal(machine, word) for machine in last]
                    if moved(gens, word) in members:
                        first = [state == 0 for state in led].index(True) if 0 in led else None
                        self.assertTrue(first is None or all(state == 0 for state in led[first:]))
                        self.assertEqual(led[-1], 0)
                    else:
                        self.assertNotIn(0, led)


class Tables(unittest.TestCase):

    def all_tables(self, group, most):
        """All tables of a group with at most so many states, by going through all machines."""
        found = []
        many = len(group.back)
        for size in range(1, most + 1):
            moves = list(itertools.permutations(range(size)))
            for told in itertools.product(moves, repeat=many):
                if all(told[group.back[k]][told[k][s]] == s for k in range(many) for s in range(size)):
                    ways = [[told[k][s] for k in range(many)] for s in range(size)]
                    order = [0]
                    for s in order:
                        order.extend(to for to in dict.fromkeys(ways[s]) if to not in order)
                    if order == list(range(size)):
                        machine = Machine(many, ways, [0])
                        kept = all(moved_from(machine, s, one) == moved_from(machine, s, other)
                                   for one, other in group.rules for s in range(size))
                        if kept:
                            found.append(machine)
        return found

    def test_is_table(self):
        for group in (S3, Group((1, 0), [((0,) * 4, ())]), Group((1, 0, 2), [((0, 0, 0), ())])):
            told = self.all_tables(group, 4)
            self.assertTrue(told)
            for machine in told:
                self.assertTrue(is_table(group=group, thing=machine))
        table = layer(Subgroup(S3, [(0,)]), 8)
        self.assertEqual(table.ways, ((0, 1), (2, 0), (1, 2)))
        self.assertTrue(is_table(S3, table))
        wrong = [Machine(2, table.ways, [0, 1]), Machine(2, table.ways, [1]), Machine(2, table.ways, []),
                 Machine(3, [(0, 1, 0), (2, 0, 1), (1, 2, 2)], [0]),
                 Machine(2, [(0, 1), (2, 0), (1, None)], [0]), Machine(2, [(0, 2), (1, 2), (2, 0)], [0]),
                 Machine(2, [(0, 1), (2, 0), (1, 2), (3, 3)], [0]), Machine(2, [(1, 1), (0, 2), (2, 0)], [0]),
                 Machine(2, [(1, 0), (0, 2), (2, 1)], [0])]
        self.assertEqual([is_table(S3, thing) for thing in wrong[:-1]], [False] * 8)
        self.assertTrue(is_table(S3, wrong[-1]))
        # The rule is kept from 0, but not from the other states.
        moves = [(0, 1, 2), (0, 2, 1), (1, 2, 0)]
        ways = [[moves[1][s], moves[1][s], moves[2][s], moves[2].index(s)] for s in range(3)]
        self.assertTrue(is_table(FREE, Machine(4, ways, [0])))
        self.assertFalse(is_table(Group(FREE.back, [((0,), ())]), Machine(4, ways, [0])))
        for thing in ODD_VALUES + [S3]:
            self.assertFalse(is_table(S3, thing))

    def test_wrong_inputs(self):
        table = layer(Subgroup(S3, [(0,)]), 8)
        for thing in ODD_VALUES:
            refused(self, BadGroup(None), is_table, thing, None)
            refused(self, BadGroup(None), table_gens, thing, None)
            refused(self, BadGroup(None), table_takes, thing, None, None)
            refused(self, BadMachine(None), table_gens, S3, thing)
            refused(self, BadMachine(None), table_takes, S3, thing, None)
            refused(self, BadSubgroup(None), found_table, thing)
        refused(self, BadMachine("table"), table_gens, PLANE, table)
        refused(self, BadMachine("table"), table_takes, PLANE, table, None)
        refused(self, BadMachine("table"), table_takes, S3, Machine(2, table.ways, []), (9,))
        for word in [None, [0], (2,), (True,), (0,) * 201]:
            refused(self, BadWord("none"), table_takes, S3, table, word)

    def test_gens_by_their_words(self):
        for group, gens in ((S3, S3_GENS), (S4, S4_GENS), (D4, D4_GENS)):
            many = len(group.back)
            for words in ([], [(0,)], [(0, 1)], [(1,), (0,) * (group.back[0] + 1)]):
                table = found_table(sub=Subgroup(group, words))
                leasts = {}
                for word in rows(many, 7):
                    leasts.setdefault(goal(table, word), word)
                told = set()
                for state, word in leasts.items():
                    for k in range(many):
                        to = leasts[table.ways[state][k]]
                        told.add(reduced(complete(Group(group.back, []), 2), word + (k,) + undone(group, to)))
                found = table_gens(group=group, table=table)
                self.assertEqual(found, sorted(told - {()}, key=rank))
                members = spread_of(gens, words + [undone(group, word) for word in words])
                self.assertEqual(spread_of(gens, found), members)
                for word in rows(many, 4):
                    self.assertEqual(table_takes(group=group, table=table, word=word), moved(gens, word) in members)

    def test_all_small_tables_tell_their_subgroups(self):
        for group, gens in ((S3, S3_GENS), (D4, D4_GENS)):
            order = len(spread_of(gens, [(k,) for k in range(len(gens))]))
            for table in self.all_tables(group, 4 if group == S3 else 3):
                found = table_gens(group, table)
                members = spread_of(gens, found + [undone(group, word) for word in found])
                self.assertEqual(len(members) * len(table.ways), order)
                for one in rows(len(gens), 3):
                    self.assertEqual(table_takes(group, table, one), moved(gens, one) in members)

    def test_the_last_layer_that_is_looked_at(self):
        for last in (0, 7, 8, 9):
            told = []

            class Slow:
                """Layers of which the one of this number is the first that is a table."""

                def __init__(self, sub, told):
                    self.number = 0
                    self.stays = False

                def go_on(self):
                    self.number += 1

                def machine(self):
                    told.append(self.number)
                    return Machine(2, [(0, 0) if self.number >= last else (None, None)], [0])

            with mock.patch("gatewords.cosettables.Layers", Slow):
                if last == 9:
                    refused(self, TooMany(8), found_table, Subgroup(S3, []))
                    self.assertEqual(told, list(range(9)))
                else:
                    self.assertEqual(found_table(Subgroup(S3, [])).ways, ((0, 0),))
                    self.assertEqual(told, list(range(last + 1)))

    def test_found_tables(self):
        self.assertEqual(found_table(Subgroup(PLANE, [(0, 0), (2,)])).ways, ((1, 1, 0, 0), (0, 0, 1, 1)))
        self.assertEqual(found_table(Subgroup(FREE, [(0,), (2,)])).ways, ((0, 0, 0, 0),))
        refused(self, TooMany(8), found_table, Subgroup(FREE, [(0,)]))
        refused(self, TooMany(8), found_table, Subgroup(PLANE, [(0, 2)]))
        refused(self, TooMany(2000), found_table, Subgroup(Group(tuple(range(11)), []), [(0, 1) * 10 + (2,)]))
        for group, gens in ((S3, S3_GENS), (S4, S4_GENS), (D4, D4_GENS)):
            sub = Subgroup(group, [])
            table = found_table(sub)
            self.assertEqual(len(table.ways), len(spread_of(gens, [(k,) for k in range(len(gens))])))
            first = next(n for n in range(9) if is_table(group, layer(sub, n)))
            self.assertEqual(table, layer(sub, first))


def moved_from(machine, state, word):
    """The state to which a word leads from a state."""
    for letter in word:
        state = machine.ways[state][letter]
    return state


if __name__ == "__main__":
    unittest.main()
