import itertools
import random
import unittest

from helpers import every_row_of, odd_values, raised, triangle, unchanged
from plain import larger_groups, plain_of, small_groups, some_items, tiny_groups
from polychains.build import abelian, cyclic, dihedral, direct, heisenberg, symmetric
from polychains.errors import Malformed
from polychains.group import Group
from polychains.subgroup import (Subgroup, conjugated, generated, is_normal, join, meet, normal_closure, representative,
                                 transversal, trivial, whole)


class SubgroupCase(unittest.TestCase):
    def assert_is(self, u, plain, members):
        """Checks all that is told of a subgroup with these elements."""
        self.assertIsInstance(u, Subgroup)
        self.assertIs(u.__class__, Subgroup)
        self.assertEqual(u.group, plain.group)
        self.assertEqual(u.rows, plain.canonical(members))
        self.assertIsInstance(u.rows, tuple)
        self.assertEqual(u.places, tuple(plain.places(members)))
        self.assertEqual(u.order, len(members))
        self.assertEqual(u.index(), len(plain.rows) // len(members))
        self.assertEqual(u.all_members(), tuple(sorted(members)))

    def every_subgroup(self, plains):
        for plain in plains:
            for members in plain.subgroups():
                yield plain, members, Subgroup(plain.group, plain.canonical(members))


class Making(SubgroupCase):
    def test_every_canonical_sequence(self):
        for plain, members, u in self.every_subgroup([*tiny_groups(), *small_groups(), *larger_groups()]):
            self.assert_is(u, plain, members)
        self.assertEqual(Subgroup(group=Group(triangle()), rows=((0, 1),)).order, 3)

    def test_no_other_tuples_of_rows(self):
        for plain in tiny_groups():
            right = {plain.canonical(members) for members in plain.subgroups()}
            for many in range(plain.group.n + 1):
                for rows in itertools.product(plain.rows, repeat=many):
                    if rows in right:
                        self.assertEqual(Subgroup(plain.group, rows).rows, rows)
                    else:
                        raised(Malformed, Subgroup, plain.group, rows)

    def test_no_other_pairs_of_rows(self):
        for plain in small_groups():
            right = {plain.canonical(members) for members in plain.subgroups()}
            for rows in itertools.chain([()], itertools.product(plain.rows, repeat=1),
                                        itertools.product(plain.rows, repeat=2)):
                if rows in right:
                    self.assertEqual(Subgroup(plain.group, rows).order, len(plain.closing(rows)))
                else:
                    raised(Malformed, Subgroup, plain.group, rows)

    def test_changed_sequences(self):
        for plain, members, u in self.every_subgroup(small_groups()[-12:] + larger_groups()[:3]):
            group = plain.group
            right = {plain.canonical(other) for other in plain.subgroups()}
            changed = [u.rows[:at] + u.rows[at + 1:] for at in range(len(u.rows))]
            changed.extend([u.rows[:at] + (x,) + u.rows[at:] for at in range(len(u.rows) + 1) for x in plain.rows])
            changed.extend(itertools.permutations(u.rows))
            for at, row in enumerate(u.rows):
                for i in range(group.n):
                    for item in range(-1, group.primes[i] + 1):
                        new = row[:i] + (item,) + row[i + 1:]
                        changed.append(u.rows[:at] + (new,) + u.rows[at + 1:])
            for rows in changed:
                if rows in right:
                    self.assertEqual(Subgroup(group, rows).rows, rows)
                else:
                    raised(Malformed, Subgroup, group, rows)

    def test_lists_and_odd_rows(self):
        for plain, members, u in self.every_subgroup(small_groups()):
            group = plain.group
            raised(Malformed, Subgroup, group, list(u.rows))
            for at, row in enumerate(u.rows):
                for odd in (list(row), row + (0,), row[:-1], tuple(bool(item) for item in row), None, 1, "0",
                            tuple(str(item) for item in row), (row,)):
                    raised(Malformed, Subgroup, group, u.rows[:at] + (odd,) + u.rows[at + 1:])

    def test_every_other_value(self):
        for plain in small_groups():
            right = {plain.canonical(members) for members in plain.subgroups()}
            for value in (*odd_values(), plain.group, plain.group.presentation, whole(plain.group), plain.rows):
                if isinstance(value, tuple) and any(value == rows and repr(value) == repr(rows) for rows in right):
                    self.assertEqual(Subgroup(plain.group, value).rows, value)
                else:
                    raised(Malformed, Subgroup, plain.group, value)

    def test_whole_and_trivial(self):
        for plain in (*tiny_groups(), *small_groups(), *larger_groups()):
            self.assert_is(unchanged(whole, plain.group), plain, plain.all)
            self.assert_is(unchanged(trivial, plain.group), plain, plain.trivial)
            self.assertEqual(trivial(plain.group).rows, ())


class Generating(SubgroupCase):
    def test_all_pairs_of_elements(self):
        for plain in (*tiny_groups(), *small_groups()):
            for items in itertools.product(plain.rows, repeat=2):
                self.assertEqual(generated(plain.group, items).rows, plain.canonical(plain.closing(items)))

    def test_some_elements(self):
        chooser = random.Random(11)
        for plain in (*tiny_groups(), *small_groups(), *larger_groups()):
            for many in range(5):
                for _ in range(4):
                    items = some_items(plain, chooser, many)
                    u = unchanged(generated, plain.group, items)
                    self.assert_is(u, plain, plain.closing(items))
                    self.assertEqual(unchanged(generated, plain.group, tuple(items)), u)
                    self.assertEqual(generated(plain.group, items[::-1] + items), u)

    def test_all_elements_of_a_subgroup(self):
        for plain, members, u in self.every_subgroup(small_groups()):
            self.assertEqual(generated(plain.group, sorted(members)), u)
            self.assertEqual(generated(plain.group, u.rows), u)

    def test_no_elements(self):
        for plain in small_groups():
            for items in ([], (), [plain.one], (plain.one, plain.one)):
                self.assertEqual(generated(plain.group, items), trivial(plain.group))
                self.assertEqual(normal_closure(plain.group, items), trivial(plain.group))

    def test_what_is_left_counts_beside_its_power(self):
        group = Group(abelian((3, 2)))
        self.assertEqual(generated(group, [(2, 1)]).rows, ((1, 0), (0, 1)))
        self.assertEqual(generated(group, [(2, 0)]).rows, ((1, 0),))
        group = Group(abelian((5, 2)))
        self.assertEqual(generated(group, [(3, 1)]).order, 10)

    def test_normal_closures(self):
        chooser = random.Random(12)
        for plain in (*tiny_groups(), *small_groups(), *larger_groups()):
            for many in range(4):
                for _ in range(3):
                    items = some_items(plain, chooser, many)
                    u = unchanged(normal_closure, plain.group, items)
                    self.assert_is(u, plain, plain.normal_closing(items))
                    self.assertEqual(unchanged(normal_closure, plain.group, tuple(items)), u)

    def test_normal_closures_of_single_elements(self):
        for plain in small_groups():
            for x in plain.rows:
                self.assertEqual(set(normal_closure(plain.group, [x]).all_members()), plain.normal_closing([x]))

    def test_large_groups(self):
        group = Group(direct(dihedral(16), dihedral(16)))
        self.assertEqual(generated(group, [(1,) * 10]).order, group.order_of((1,) * 10))
        self.assertEqual(whole(group).order, 1024)
        group = Group(cyclic(1024))
        self.assertEqual(generated(group, [(0, 1) + (1,) * 8]).order, 512)
        group = Group(direct(heisenberg(3), heisenberg(3)))
        self.assertEqual(normal_closure(group, [(1, 0, 0, 1, 0, 0)]).order, 27)

    def test_malformed_items(self):
        for plain in small_groups():
            group = plain.group
            for value in (*odd_values(), set(), plain.one, {}, whole(group)):
                well = isinstance(value, (list, tuple)) and all(group.is_element(item) for item in value)
                for function in (generated, normal_closure):
                    if well:
                        self.assertIsInstance(function(group, value), Subgroup)
                    else:
                        raised(Malformed, function, group, value)
            for odd in ([*plain.one], plain.one + (0,), (-1,) * max(group.n, 1), group.primes or (0,), None, True, 0, "1"):
                for function in (generated, normal_closure):
                    raised(Malformed, function, group, [plain.one, odd])
                    raised(Malformed, function, group, (odd,))
                    raised(Malformed, function, group, (plain.rows[-1], odd, plain.one))


class Members(SubgroupCase):
    def test_contains(self):
        for plain, members, u in self.every_subgroup([*tiny_groups(), *small_groups(), *larger_groups()]):
            for x in plain.rows:
                self.assertIs(u.contains(x), x in members)

    def test_contains_for_every_value(self):
        for plain, members, u in self.every_subgroup([*small_groups()]):
            for value in (*odd_values(), u, plain.group, u.rows, [*plain.one], plain.one + (0,), plain.group.primes,
                          tuple(bool(item) for item in plain.one), tuple(-item for item in plain.rows[-1])):
                inside = plain.group.is_element(value) and value in members
                self.assertIs(u.contains(value), inside, value)

    def test_exponents(self):
        for plain, members, u in self.every_subgroup([*tiny_groups(), *small_groups(), *larger_groups()]):
            for x in plain.rows:
                found = unchanged(u.exponents, x)
                if x in members:
                    self.assertIsInstance(found, tuple)
                    self.assertEqual(len(found), len(u.rows))
                    for item, at in zip(found, u.places):
                        self.assertTrue(0 <= item < plain.group.primes[at])
                    powers = [plain.power(row, item) for row, item in zip(u.rows, found)]
                    self.assertEqual(plain.times(*powers), x)
                else:
                    self.assertIsNone(found)

    def test_exponents_are_all_rows_of_exponents(self):
        for plain, members, u in self.every_subgroup(small_groups()):
            found = sorted(u.exponents(x) for x in members)
            self.assertEqual(found, every_row_of([plain.group.primes[at] for at in u.places]))

    def test_is_inside(self):
        for plain in (*tiny_groups(), *small_groups()):
            pairs = [(members, Subgroup(plain.group, plain.canonical(members))) for members in plain.subgroups()]
            for one, u in pairs:
                for two, v in pairs:
                    self.assertIs(u.is_inside(v), one <= two)

    def test_equality(self):
        for plain in (*tiny_groups(), *small_groups()):
            group = Group(plain.group.presentation)
            found = [Subgroup(plain.group, plain.canonical(members)) for members in plain.subgroups()]
            for at, u in enumerate(found):
                for other, v in enumerate(found):
                    self.assertIs(u == v, at == other)
                    self.assertIs(u != v, at != other)
                self.assertTrue(u == Subgroup(group, u.rows))

    def test_equality_for_every_value(self):
        for u in (whole(Group(triangle())), trivial(Group(triangle())), trivial(Group(cyclic(1)))):
            for value in (*odd_values(), u.rows, u.group, u.places, u.order, u.all_members()):
                same = isinstance(value, Subgroup) and value.group == u.group and value.rows == u.rows
                self.assertIs(u == value, same)
                self.assertIs(u != value, not same)
        self.assertFalse(trivial(Group(cyclic(2))) == trivial(Group(cyclic(3))))
        self.assertFalse(whole(Group(cyclic(4))) == whole(Group(abelian((2, 2)))))
        self.assertFalse(trivial(Group(cyclic(4))) == trivial(Group(abelian((2, 2)))))


class Pairs(SubgroupCase):
    def test_joins_and_meets(self):
        for plain in (*tiny_groups(), *small_groups()):
            pairs = [(members, Subgroup(plain.group, plain.canonical(members))) for members in plain.subgroups()]
            for one, u in pairs:
                for two, v in pairs:
                    self.assertEqual(unchanged(join, u, v).rows, plain.canonical(plain.closing(one | two)))
                    self.assertEqual(unchanged(meet, u, v).rows, plain.canonical(one & two))

    def test_some_larger_joins_and_meets(self):
        chooser = random.Random(13)
        for plain in larger_groups():
            for _ in range(40):
                one, two = chooser.choices(plain.subgroups(), k=2)
                u, v = [Subgroup(plain.group, plain.canonical(members)) for members in (one, two)]
                self.assert_is(join(u, v), plain, plain.closing(one | two))
                self.assert_is(meet(u, v), plain, one & two)

    def test_malformed_for_unlike_groups(self):
        groups = [Group(made) for made in (cyclic(1), cyclic(4), abelian((2, 2)), symmetric(3), cyclic(6))]
        for one in groups:
            for two in groups:
                for function in (join, meet):
                    for u in (whole(one), trivial(one)):
                        for v in (whole(two), trivial(two)):
                            if one == two:
                                self.assertIsInstance(function(u, v), Subgroup)
                            else:
                                raised(Malformed, function, u, v)
        again = Group(symmetric(3))
        self.assertEqual(join(whole(groups[3]), trivial(again)), whole(again))
        self.assertEqual(meet(whole(groups[3]), trivial(again)), trivial(again))


class Conjugates(SubgroupCase):
    def test_conjugated(self):
        for plain, members, u in self.every_subgroup([*tiny_groups(), *small_groups()]):
            for x in plain.rows:
                self.assertEqual(unchanged(conjugated, u, x).rows, plain.canonical(plain.moved(members, x)))

    def test_some_larger_conjugates(self):
        chooser = random.Random(14)
        for plain, members, u in self.every_subgroup(larger_groups()):
            x = chooser.choice(plain.rows)
            self.assert_is(conjugated(u, x), plain, plain.moved(members, x))

    def test_is_normal(self):
        for plain, members, u in self.every_subgroup([*tiny_groups(), *small_groups(), *larger_groups()]):
            self.assertIs(unchanged(is_normal, u), plain.is_normal(members))


class Cosets(SubgroupCase):
    def test_representatives(self):
        for plain, members, u in self.every_subgroup([*tiny_groups(), *small_groups()]):
            for x in plain.rows:
                found = unchanged(representative, u, x)
                self.assertIn(found, plain.left_coset(x, members))
                self.assertFalse(any(found[at] for at in u.places))

    def test_representatives_are_the_same_within_a_coset(self):
        chooser = random.Random(15)
        for plain, members, u in self.every_subgroup(larger_groups()):
            x = chooser.choice(plain.rows)
            found = {representative(u, y) for y in plain.left_coset(x, members)}
            self.assertEqual(len(found), 1)
            self.assertTrue(found <= plain.left_coset(x, members))

    def test_transversals(self):
        for plain, members, u in self.every_subgroup([*tiny_groups(), *small_groups(), *larger_groups()]):
            found = unchanged(transversal, u)
            self.assertIsInstance(found, tuple)
            self.assertEqual(list(found), sorted(found))
            cosets = {plain.left_coset(x, members) for x in found}
            self.assertEqual(len(cosets), len(found))
            self.assertEqual(len(found) * len(members), len(plain.rows))
            self.assertFalse(any(x[at] for x in found for at in u.places))

    def test_order_1(self):
        u = whole(plain_of(cyclic(1)).group)
        self.assertEqual((u.rows, u.places, u.order, u.index(), u.all_members()), ((), (), 1, 1, ((),)))
        self.assertEqual(transversal(u), ((),))
        self.assertEqual(representative(u, ()), ())
        self.assertEqual(u.exponents(()), ())
        self.assertIs(is_normal(u), True)


if __name__ == "__main__":
    unittest.main()
