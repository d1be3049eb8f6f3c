"""Points 58 and 77: tables of finite groups, and all maps into them."""

import itertools
import math
import unittest

from gatewords.abelian import abelian_part
from gatewords.centres import conjugates
from gatewords.distances import order_of
from gatewords.equations import sides_of
from gatewords.errors import BadGroup, BadSteady, Endless, TooMany
from gatewords.finitemaps import count_into, maps_into
from gatewords.groups import Group
from gatewords.maps import Map, broken_map
from gatewords.normals import normal
from gatewords.products import free_product
from gatewords.steadies import Steady
from gatewords.tables import classes, normals, orders, table
from tests.examples import (D4_BACK, D4_RULES, S3_BACK, S3_RULES, THREE, cyclic_claim, d4_claim, endless_claim,
                            points_claim, s3_claim, s4_claim, three_claim, two_claim)
from tests.helpers import ODD_VALUES, refused

S3 = Group(S3_BACK, S3_RULES)
D4 = Group(D4_BACK, D4_RULES)


class Tables(unittest.TestCase):

    def setUp(self):
        self.steadies = [Steady(claim) for claim in (three_claim(), s3_claim(), d4_claim(), cyclic_claim(5), two_claim())]

    def test_example(self):
        steady = Steady(three_claim())
        self.assertEqual(normals(steady=steady), [(), (0,), (1,)])
        self.assertEqual(table(steady=steady), [[0, 1, 2], [1, 2, 0], [2, 0, 1]])
        self.assertEqual(orders(steady=steady), [1, 3, 3])
        self.assertEqual(classes(steady=steady), [[0], [1], [2]])

    def test_against_normal_words(self):
        for steady in self.steadies + [Steady(s4_claim())]:
            words = normals(steady)
            self.assertEqual(words, sorted(words, key=lambda word: (len(word), word)))
            rows = table(steady)
            for i, one in enumerate(words):
                self.assertEqual(normal(steady, one), one)
                self.assertEqual(rows[i], [words.index(normal(steady, one + other)) for other in words])
            self.assertEqual(orders(steady), [order_of(steady, word, 200) for word in words])

    def test_classes(self):
        for steady in self.steadies + [Steady(s4_claim())]:
            words = normals(steady)
            told = classes(steady)
            rows = table(steady)
            self.assertEqual(sorted(place for part in told for place in part), list(range(len(words))))
            self.assertEqual(told, sorted(sorted(part) for part in told))
            both = sum(rows[i][j] == rows[j][i] for i in range(len(words)) for j in range(len(words)))
            self.assertEqual(both, len(told) * len(words))
            for part in told:
                moved = {rows[rows[x].index(0)][rows[part[0]][x]] for x in range(len(words))}
                self.assertEqual(set(part), moved)
        steady = Steady(s3_claim())
        sides = sides_of(steady)
        words = normals(steady)
        for part in classes(steady):
            self.assertEqual([words[place] for place in part], conjugates(sides, words[part[0]]))

    def test_many_words(self):
        steady = Steady(cyclic_claim(120))
        self.assertEqual(len(normals(steady)), 120)
        self.assertEqual(table(steady)[119][2], 1)
        self.assertEqual(orders(steady)[36], 10)
        self.assertEqual(len(classes(steady)), 120)
        for function in (normals, table, orders, classes):
            refused(self, TooMany(120), function, Steady(cyclic_claim(121)))
            refused(self, Endless("no end"), function, Steady(endless_claim()))
            for thing in ODD_VALUES:
                refused(self, BadSteady(None), function, thing)

    def test_what_is_returned_is_new(self):
        steady = Steady(three_claim())
        for function in (normals, table, orders, classes):
            told = function(steady)
            told.clear()
            self.assertNotEqual(function(steady), [])
        table(steady)[0].clear()
        self.assertEqual(table(steady)[0], [0, 1, 2])

    def test_of_no_group_something_is_told(self):
        self.assertEqual(len(normals(Steady(points_claim()))), 3)


class FiniteMaps(unittest.TestCase):

    def plain(self, group, steady):
        """All maps, by trying each tuple."""
        words = normals(steady)
        found = []
        for places in itertools.product(range(len(words)), repeat=len(group.back)):
            if broken_map(Map(group, steady, [words[place] for place in places])) is None:
                found.append(places)
        return found

    def test_example(self):
        target = Steady(s3_claim())
        self.assertEqual(count_into(group=THREE, steady=target), 3)
        self.assertEqual(count_into(S3, target), 10)

    def test_against_all_tuples(self):
        groups = [THREE, S3, Group((1, 0), []), Group((0, 2, 1), [((0, 1, 1), (2, 0))]), Group((0, 1), []),
                  Group((0, 1, 2), [((0, 1) * 3, ()), ((2,), (0,))]), D4, Group((1, 0), [((0,), (1,)), ((0, 0, 0), ())])]
        for steady in (Steady(three_claim()), Steady(s3_claim()), Steady(two_claim()), Steady(d4_claim())):
            for group in groups:
                told = self.plain(group, steady)
                self.assertEqual(maps_into(group=group, steady=steady), told)
                self.assertEqual(count_into(group, steady), len(told))

    def test_products(self):
        for steady in (Steady(s3_claim()), Steady(d4_claim())):
            for one, other in itertools.product([THREE, S3, Group((1, 0), [])], repeat=2):
                if len(one.back) + len(other.back) <= 4:
                    told = count_into(free_product(one, other), steady)
                    self.assertEqual(told, count_into(one, steady) * count_into(other, steady))

    def test_into_cyclic_groups(self):
        groups = [THREE, S3, D4, Group((1, 0), []), Group((1, 0, 3, 2), [((0, 0, 2, 2), ())]),
                  Group((1, 0, 2), [((0, 0), (2,))])]
        for many in (1, 2, 4, 6, 9):
            steady = Steady(cyclic_claim(many))
            for group in groups:
                divisors, free = abelian_part(group)
                told = math.prod(math.gcd(many, divisor) for divisor in divisors) * many ** free
                self.assertEqual(count_into(group, steady), told)

    def test_most_tuples(self):
        three_letters = Group((1, 0, 3, 2, 5, 4), [((0,), ()), ((2,), ())])
        self.assertEqual(count_into(three_letters, Steady(cyclic_claim(27))), 27)
        refused(self, TooMany(20000), count_into, three_letters, Steady(cyclic_claim(28)))
        refused(self, TooMany(20000), maps_into, three_letters, Steady(cyclic_claim(28)))
        # Letters that undo themselves count, too.
        refused(self, TooMany(20000), count_into, Group((0, 1, 2), []), Steady(cyclic_claim(28)))
        self.assertEqual(count_into(Group((1, 0, 3, 2), [((0,), ()), ((2,), ())]), Steady(cyclic_claim(120))), 1)

    def test_wrong_inputs(self):
        for function in (maps_into, count_into):
            for thing in ODD_VALUES:
                refused(self, BadGroup(None), function, thing, None)
                refused(self, BadSteady(None), function, THREE, thing)
            refused(self, Endless("no end"), function, Group(tuple(range(12)), []), Steady(endless_claim()))
            refused(self, TooMany(120), function, Group(tuple(range(12)), []), Steady(cyclic_claim(121)))


if __name__ == "__main__":
    unittest.main()
