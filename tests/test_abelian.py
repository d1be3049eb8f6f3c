"""Points [75] and [76]: the commutative part, and places that tell it."""

import itertools
import random
import unittest

from gatewords.abelian import abelian_order, abelian_part, diagonal, is_alike_abelian
from gatewords.abelianmaps import abelian_map, abelian_place, is_abelian_map
from gatewords.errors import BadGroup, BadMap, BadWord
from gatewords.groups import Group
from gatewords.products import direct_product, free_product
from tests.helpers import ODD_VALUES, refused, rows

THREE = Group((1, 0), [((0, 0, 0), ())])
OTHER = Group((0, 1), [((0, 1, 0), (1, 0, 1))])
ENDLESS = Group((1, 0), [])


def chance_group(seed):
    chance = random.Random(seed)
    many = chance.randrange(2, 6)
    back = list(range(many))
    places = list(range(many))
    chance.shuffle(places)
    while len(places) > 1 and chance.random() < 0.8:
        one, other = places.pop(), places.pop()
        back[one], back[other] = other, one
    word = [tuple(chance.randrange(many) for _ in range(chance.randrange(8))) for _ in range(8)]
    return Group(tuple(back), [(word[2 * k], word[2 * k + 1]) for k in range(chance.randrange(5))])


def reached(group, most):
    """The lines of numbers, each near to 0, that sums of the lines of the group come to."""
    many = len(group.back)
    lines = [[(x == k) + (x == group.back[k]) for x in range(many)] for k in range(many)]
    lines += [[a.count(x) - b.count(x) for x in range(many)] for a, b in group.rules]
    found = {(0,) * many}
    waiting = list(found)
    while waiting:
        line = waiting.pop()
        for more in lines:
            for sign in (1, -1):
                new = tuple(x + sign * y for x, y in zip(line, more))
                if max(map(abs, new)) <= most and new not in found:
                    found.add(new)
                    waiting.append(new)
    return found


class Parts(unittest.TestCase):

    def test_of_the_document(self):
        self.assertEqual(abelian_part(THREE), ([3], 0))
        self.assertEqual(abelian_part(OTHER), ([2], 0))
        product = direct_product(THREE, OTHER)
        self.assertEqual(abelian_part(product), ([6], 0))
        self.assertEqual(abelian_order(product, (0, 2)), 6)

    def test_kinds(self):
        part = abelian_part(group=THREE)
        self.assertIs(type(part), tuple)
        self.assertIs(type(part[0]), list)
        part[0].append(5)
        self.assertEqual(abelian_part(THREE), ([3], 0))

    def test_some(self):
        self.assertEqual(abelian_part(ENDLESS), ([], 1))
        self.assertEqual(abelian_part(Group((0, 1), [])), ([2, 2], 0))
        self.assertEqual(abelian_part(Group((0, 1), [((0,), ()), ((1,), ())])), ([], 0))
        self.assertEqual(abelian_part(Group((1, 0, 3, 2), [((0,) * 4, ()), ((2,) * 6, ())])), ([2, 12], 0))
        self.assertEqual(abelian_part(Group((1, 0, 3, 2, 5, 4), [((0,) * 4, (2,) * 6)])), ([2], 2))
        self.assertEqual(abelian_part(Group(tuple(range(12)), [])), ([2] * 12, 0))
        six = Group((1, 0) + (3, 2) + (5, 4) + (7, 6) + (9, 8) + (11, 10), [])
        self.assertEqual(abelian_part(six), ([], 6))
        self.assertEqual(abelian_part(Group((1, 0), [((0,) * 40, ()), ((0,) * 28, (1,) * 40)])), ([4], 0))

    def test_divisors_divide(self):
        for seed in range(120):
            divisors, free = abelian_part(chance_group(seed))
            self.assertTrue(all(number > 1 for number in divisors))
            self.assertTrue(all(b % a == 0 for a, b in zip(divisors, divisors[1:])))
            self.assertGreaterEqual(free, 0)

    def test_letters_in_another_sequence(self):
        for seed in range(40):
            group = chance_group(seed)
            many = len(group.back)
            names = list(range(many))[::-1]
            back = tuple(names[group.back[names[k]]] for k in range(many))
            rules = [tuple(tuple(names[x] for x in side) for side in rule) for rule in group.rules]
            self.assertEqual(abelian_part(Group(back, rules)), abelian_part(group))

    def test_products(self):
        for seed in range(20):
            one, other = chance_group(seed), chance_group(seed + 1000)
            if len(one.back) + len(other.back) <= 12:
                self.assertEqual(abelian_part(free_product(one, other)), abelian_part(direct_product(one, other)))

    def test_errors(self):
        for thing in ODD_VALUES:
            refused(self, BadGroup(None), abelian_part, thing)
            refused(self, BadGroup(None), abelian_map, thing)
        refused(self, BadGroup(None), is_alike_abelian, None, None, None)
        refused(self, BadGroup(None), abelian_order, None, None)
        refused(self, BadWord("x"), is_alike_abelian, THREE, [0], None)
        refused(self, BadWord("x"), is_alike_abelian, THREE, (0,), (2,))
        refused(self, BadWord("x"), is_alike_abelian, THREE, (2,), (0,))
        refused(self, BadWord("x"), abelian_order, THREE, (True,))
        refused(self, BadGroup(None), is_abelian_map, None, None)
        refused(self, BadGroup(None), abelian_place, None, None, None)


    def test_diagonal_forms(self):
        chance = random.Random(2)
        self.assertEqual(diagonal([[2, 0], [0, 3]], 2)[0], [1, 6])
        self.assertEqual(diagonal([[4, 0, 0], [0, 6, 0], [0, 0, 9]], 3)[0], [1, 6, 36])
        self.assertEqual(diagonal([], 2)[0], [0, 0])
        for _ in range(300):
            many = chance.randrange(1, 4)
            lines = [[chance.randrange(-6, 7) for _ in range(many)] for _ in range(many)]
            form, turns = diagonal(lines, many)
            size = 1
            for number in form:
                size *= number
            self.assertEqual(size, abs(determinant(lines)))
            self.assertEqual(abs(determinant(turns)), 1)
            self.assertTrue(all(b % a == 0 if a else b == 0 for a, b in zip(form, form[1:])))
            # Each line of the form comes of lines, so each line turned has its multiples.
            for line in lines:
                told = [sum(a * row[k] for a, row in zip(line, turns)) for k in range(many)]
                self.assertTrue(all(x % number == 0 if number else x == 0 for x, number in zip(told, form)))


def determinant(lines):
    if not lines:
        return 1
    return sum((-1) ** k * lines[0][k] * determinant([line[:k] + line[k + 1:] for line in lines[1:]])
               for k in range(len(lines)))


class Alike(unittest.TestCase):

    def test_by_whole_numbers(self):
        for seed in range(25):
            group = chance_group(seed)
            if len(group.back) > 3:
                continue
            sums = reached(group, 25)
            for one in rows(len(group.back), 3):
                for other in rows(len(group.back), 2):
                    line = tuple(one.count(k) - other.count(k) for k in range(len(group.back)))
                    self.assertIs(is_alike_abelian(group, one, other), line in sums)

    def test_orders(self):
        for seed in range(40):
            group = chance_group(seed)
            for word in rows(len(group.back), 2)[::3]:
                order = abelian_order(group, word)
                first = [k for k in range(1, 40) if is_alike_abelian(group, word * k, ())]
                if order is None or order >= 40:
                    self.assertEqual(first, [])
                else:
                    self.assertEqual(first[0], order)

    def test_long_words(self):
        self.assertIs(is_alike_abelian(THREE, (0,) * 999, ()), True)
        self.assertIs(is_alike_abelian(group=THREE, one=(0,) * 1000, other=()), False)
        self.assertIsNone(abelian_order(ENDLESS, (0,) * 500))
        self.assertEqual(abelian_order(group=ENDLESS, word=(0, 1)), 1)
        self.assertEqual(abelian_order(THREE, ()), 1)


class Places(unittest.TestCase):

    def test_maps_tell(self):
        for seed in range(40):
            group = chance_group(seed)
            places = abelian_map(group)
            divisors, free = abelian_part(group)
            self.assertIs(type(places), list)
            self.assertIs(is_abelian_map(group, places), True)
            self.assertIs(is_abelian_map(group, tuple(places)), True)
            for one in rows(len(group.back), 2)[::2]:
                for other in rows(len(group.back), 2)[::3]:
                    same = abelian_place(group, places, one) == abelian_place(group, places, other)
                    self.assertIs(same, is_alike_abelian(group, one, other))
            place = abelian_place(group, places, (0,) * 50)
            self.assertEqual(len(place), len(divisors) + free)
            self.assertTrue(all(0 <= x < most for x, most in zip(place, divisors)))
            self.assertIs(type(place), tuple)

    def test_all_lists_judged(self):
        three = [list(row) for row in itertools.product([(0,), (1,), (2,)], repeat=2)]
        self.assertEqual([row for row in three if is_abelian_map(THREE, row)], [[(1,), (2,)], [(2,), (1,)]])
        four = Group((1, 0), [((0,) * 4, ())])
        told = [x for x in range(4) if is_abelian_map(four, [(x,), ((-x) % 4,)])]
        self.assertEqual(told, [1, 3])
        both = Group((0, 1), [])
        places = list(itertools.product(range(2), repeat=2))
        told = [row for row in itertools.product(places, repeat=2) if is_abelian_map(both, list(row))]
        self.assertEqual(len(told), 6)
        ends = [(x, y) for x in range(-2, 3) for y in range(-2, 3) if is_abelian_map(ENDLESS, [(x,), (y,)])]
        self.assertEqual(ends, [(-1, 1), (1, -1)])

    def test_onto_by_the_divisors(self):
        # These four come to all rows modulo 2, though not to all rows of whole numbers.
        four = Group((0, 1, 2, 3), [])
        places = [tuple(int(j != k) for j in range(4)) for k in range(4)]
        self.assertIs(is_abelian_map(four, places), True)
        self.assertIs(is_abelian_map(four, [(1, 1, 0, 0), (0, 1, 1, 0), (0, 0, 1, 1), (1, 0, 0, 1)]), False)

    def test_no_numbers_at_all(self):
        gone = Group((0, 1), [((0,), ()), ((1,), ())])
        self.assertEqual(abelian_map(gone), [(), ()])
        self.assertIs(is_abelian_map(gone, ((), ())), True)
        self.assertEqual(abelian_place(gone, [(), ()], (0, 1)), ())

    def test_kinds(self):
        for thing in ODD_VALUES + [[(1,)], [(1,), (2,), (0,)], [(1,), [2]], [(1,), (True,)], [(1,), (5,)],
                                   [(1,), (-1,)], [(1,), (2, 0)], [(1,), (2.0,)], {0: (1,), 1: (2,)}, [(1,), ()],
                                   [(0,), (0,)], [(1,), (1,)], [(4,), (2,)], [(1,), (3,)], [(1,), (-1,)]]:
            self.assertIs(is_abelian_map(THREE, thing), False, repr(thing))

    def test_errors(self):
        refused(self, BadMap("abelian"), abelian_place, THREE, [(1,), (1,)], None)
        refused(self, BadMap("abelian"), abelian_place, THREE, None, (0,))
        refused(self, BadWord("x"), abelian_place, THREE, [(1,), (2,)], [0])
        refused(self, BadWord("x"), abelian_place, THREE, [(1,), (2,)], (2,))
        self.assertEqual(abelian_place(group=THREE, places=[(1,), (2,)], word=(0,) * 500), (500 % 3,))
        self.assertEqual(abelian_place(ENDLESS, ((1,), (-1,)), (0,) * 500 + (1,)), (499,))

    def test_given_is_kept(self):
        places = [(1,), (2,)]
        abelian_place(THREE, places, (0,))
        self.assertEqual(places, [(1,), (2,)])
        self.assertIsNot(abelian_map(THREE), abelian_map(THREE))


if __name__ == "__main__":
    unittest.main()
