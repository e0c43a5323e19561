import random
import unittest

from helpers import odd_values, raised, unchanged
from plain import larger_groups, small_groups, some_items, tiny_groups
from polychains.build import cyclic, dihedral, direct, heisenberg, metacyclic, symmetric, wreath
from polychains.classes import (centralizer, centre, class_of, conjugacy_classes, conjugator, normalizer, subgroup_class,
                                subgroup_conjugator)
from polychains.errors import Malformed
from polychains.group import Group
from polychains.subgroup import Subgroup, conjugated, trivial, whole


def all_groups():
    return [*tiny_groups(), *small_groups(), *larger_groups()]


def subgroup(plain, members):
    return Subgroup(plain.group, plain.canonical(members))


class Centralizers(unittest.TestCase):
    def commuting(self, plain, items):
        return frozenset(y for y in plain.rows if all(plain.products[x, y] == plain.products[y, x] for x in items))

    def test_single_elements(self):
        for plain in all_groups():
            for x in plain.rows:
                expected = subgroup(plain, self.commuting(plain, [x]))
                self.assertEqual(centralizer(plain.group, [x]), expected)
                self.assertEqual(centralizer(plain.group, (x,)), expected)

    def test_several_elements(self):
        chooser = random.Random(41)
        for plain in all_groups():
            for many in (2, 2, 2, 3, 3, 5):
                items = some_items(plain, chooser, many)
                expected = subgroup(plain, self.commuting(plain, items))
                self.assertEqual(unchanged(centralizer, plain.group, items), expected)
                self.assertEqual(unchanged(centralizer, plain.group, tuple(items)), expected)

    def test_no_elements(self):
        for plain in all_groups():
            self.assertEqual(centralizer(plain.group, []), whole(plain.group))
            self.assertEqual(centralizer(plain.group, ()), whole(plain.group))
            self.assertEqual(centralizer(plain.group, [plain.one]), whole(plain.group))

    def test_centre(self):
        for plain in all_groups():
            self.assertEqual(unchanged(centre, plain.group), subgroup(plain, self.commuting(plain, plain.rows)))
        self.assertEqual(centre(Group(dihedral(512))).order, 2)
        self.assertEqual(centre(Group(direct(heisenberg(3), heisenberg(3)))).order, 9)

    def test_malformed_for_every_other_value(self):
        for plain in small_groups():
            group = plain.group
            for value in (*odd_values(), plain.one, whole(group), group):
                if isinstance(value, (list, tuple)) and all(group.is_element(item) for item in value):
                    self.assertIsInstance(centralizer(group, value), Subgroup)
                else:
                    raised(Malformed, centralizer, group, value)
            for odd in ([*plain.one], plain.one + (0,), (-1,) * max(group.n, 1), None, 0, True, "1"):
                raised(Malformed, centralizer, group, [plain.one, odd])
                raised(Malformed, centralizer, group, (odd,))


class Classes(unittest.TestCase):
    def test_class_of(self):
        for plain in all_groups():
            for x in plain.rows:
                expected = tuple(sorted({plain.conjugated(x, y) for y in plain.rows}))
                self.assertEqual(unchanged(class_of, plain.group, x), expected)

    def test_conjugacy_classes(self):
        for plain in all_groups():
            classes = {frozenset(plain.conjugated(x, y) for y in plain.rows) for x in plain.rows}
            expected = tuple(sorted((min(members), len(members)) for members in classes))
            self.assertEqual(unchanged(conjugacy_classes, plain.group), expected)

    def test_classes_of_constructions(self):
        for made, many in ((cyclic(1), 1), (cyclic(24), 24), (symmetric(4), 5), (dihedral(512), 259), (heisenberg(5), 29),
                           (metacyclic(31, 30, 3), 31), (wreath(cyclic(2), 5), 16)):
            found = conjugacy_classes(Group(made))
            self.assertEqual(len(found), many)
            self.assertEqual(sum(size for _, size in found), made.order)

    def test_conjugator(self):
        for plain in all_groups():
            for x in plain.rows:
                least = {}
                for z in plain.rows:
                    least.setdefault(plain.conjugated(x, z), z)
                for y in plain.rows:
                    self.assertEqual(conjugator(plain.group, x, y), least.get(y))

    def test_conjugator_changes_nothing(self):
        group = Group(symmetric(3))
        self.assertEqual(unchanged(conjugator, group, (0, 1), (0, 2)), (1, 0))
        self.assertIsNone(unchanged(conjugator, group, (0, 1), (1, 0)))

    def test_malformed_for_every_other_value(self):
        for plain in small_groups():
            group = plain.group
            for value in (*odd_values(), [*plain.one], plain.one + (0,), group.primes + (1,)):
                if group.is_element(value):
                    self.assertIn(value, class_of(group, value))
                    self.assertEqual(conjugator(group, value, value), plain.one)
                else:
                    raised(Malformed, class_of, group, value)
                    for x in (plain.one, plain.rows[-1]):
                        raised(Malformed, conjugator, group, x, value)
                        raised(Malformed, conjugator, group, value, x)
                    raised(Malformed, conjugator, group, value, value)


class Subgroups(unittest.TestCase):
    def test_normalizer(self):
        for plain in all_groups():
            for members in plain.subgroups():
                expected = frozenset(x for x in plain.rows if plain.moved(members, x) == members)
                self.assertEqual(unchanged(normalizer, subgroup(plain, members)), subgroup(plain, expected))

    def test_subgroup_class(self):
        for plain in all_groups():
            for members in plain.subgroups():
                expected = sorted({plain.canonical(plain.moved(members, x)) for x in plain.rows})
                found = unchanged(subgroup_class, subgroup(plain, members))
                self.assertIsInstance(found, tuple)
                self.assertEqual([u.rows for u in found], expected)
                self.assertTrue(all(isinstance(u, Subgroup) and u.group == plain.group for u in found))

    def test_subgroup_conjugator(self):
        for plain in [*tiny_groups(), *small_groups()]:
            for one in plain.subgroups():
                least = {}
                for x in plain.rows:
                    least.setdefault(plain.moved(one, x), x)
                u = subgroup(plain, one)
                for two in plain.subgroups():
                    if len(two) == len(one):
                        self.assertEqual(unchanged(subgroup_conjugator, u, subgroup(plain, two)), least.get(two))

    def test_subgroup_conjugator_of_unlike_orders(self):
        for plain in small_groups():
            subgroups = plain.subgroups()
            for one, two in zip(subgroups, subgroups[1:]):
                if len(one) != len(two):
                    self.assertIsNone(subgroup_conjugator(subgroup(plain, one), subgroup(plain, two)))
                    self.assertIsNone(subgroup_conjugator(subgroup(plain, two), subgroup(plain, one)))

    def test_some_larger_subgroup_conjugators(self):
        chooser = random.Random(42)
        for plain in larger_groups():
            for members in chooser.sample(plain.subgroups(), min(10, len(plain.subgroups()))):
                u = subgroup(plain, members)
                other = plain.moved(members, chooser.choice(plain.rows))
                expected = min(x for x in plain.rows if plain.moved(members, x) == other)
                self.assertEqual(subgroup_conjugator(u, subgroup(plain, other)), expected)
                self.assertEqual(conjugated(u, expected), subgroup(plain, other))

    def test_malformed_for_every_other_value(self):
        group = Group(symmetric(3))
        for u in (whole(group), trivial(group), Subgroup(group, ((1, 0),))):
            for value in (*odd_values(), group, u.rows, whole(Group(cyclic(6))), trivial(Group(cyclic(1)))):
                if isinstance(value, Subgroup) and value.group == group:
                    expected = group.identity() if value == u else None
                    self.assertEqual(subgroup_conjugator(u, value), expected)
                else:
                    raised(Malformed, subgroup_conjugator, u, value)
                    raised(Malformed, subgroup_conjugator, value, u)
                if not isinstance(value, Subgroup):
                    raised(Malformed, subgroup_conjugator, value, value)
        raised(Malformed, subgroup_conjugator, trivial(Group(cyclic(4))), trivial(Group(dihedral(2))))


if __name__ == "__main__":
    unittest.main()
