import itertools
import random
import unittest

from helpers import every_row, odd_values, raised, unchanged
from plain import larger_groups, plain_of, prime_factors, small_groups, tiny_groups
from polychains.build import abelian, cyclic, dicyclic, dihedral, direct, heisenberg, metacyclic, symmetric, wreath
from polychains.complement import (class_count, coboundaries, cocycles, combination, complement, complements, equations,
                                   prime_of)
from polychains.errors import Malformed, Refused
from polychains.group import Group
from polychains.linear import span
from polychains.subgroup import Subgroup, generated, normal_closure, trivial, whole

FUNCTIONS = (prime_of, equations, complement, combination, complements, cocycles, coboundaries, class_count)


def is_elementary(plain, members):
    orders = {plain.order_of(x) for x in members} - {1}
    return plain.is_abelian(members) and len(orders) < 2 and all(prime_factors(p) == [p] for p in orders)


def all_groups():
    return [*tiny_groups(), *small_groups(), *larger_groups()]


class Setting:
    """A group with a normal elementary abelian subgroup, by its elements alone."""

    def __init__(self, plain, members):
        self.plain = plain
        self.members = members
        self.n = Subgroup(plain.group, plain.canonical(members))
        self.p = prime_factors(len(members))[0] if len(members) > 1 else 2
        self.d = len(self.n.rows)
        free = [at for at in range(plain.group.n) if at not in self.n.places]
        # The generators that are left stand for the generators of the quotient.
        self.lifts = [plain.group.generator(at) for at in free]
        self.primes = [plain.group.primes[at] for at in free]
        self.of_row = {row: self.product(self.n.rows, row) for row in every_row(self.d, self.p)}
        self.to_row = {x: row for row, x in self.of_row.items()}

    def product(self, rows, exponents):
        return self.plain.times(*[self.plain.power(x, e) for x, e in zip(rows, exponents)])

    def coset_row(self, x):
        """The row of the coset of an element in the quotient."""
        for row in itertools.product(*[range(p) for p in self.primes]):
            if self.plain.times(self.plain.inverses[self.product(self.lifts, row)], x) in self.members:
                return row
        raise AssertionError(x)

    def sides(self):
        """The left and right sides of the relations of the quotient, as words of generator and exponent."""
        m = len(self.lifts)
        found = []
        for i in range(m):
            power = self.coset_row(self.plain.power(self.lifts[i], self.primes[i]))
            found.append(([(i, self.primes[i])], list(enumerate(power))))
            for j in range(i + 1, m):
                moved = self.coset_row(self.plain.conjugated(self.lifts[j], self.lifts[i]))
                found.append(([(j, 1), (i, 1)], [(i, 1), *enumerate(moved)]))
        return found

    def values(self, sides, coordinates):
        """The coordinates of all relations with `t_k x_k` in place of the generators, one behind the other."""
        plain, d = self.plain, self.d
        put = [plain.times(lift, self.of_row[tuple(coordinates[k * d:k * d + d])]) for k, lift in enumerate(self.lifts)]
        found = []
        for left, right in sides:
            one, two = [plain.times(*[plain.power(put[k], e) for k, e in side]) for side in (left, right)]
            found.extend(self.to_row[plain.times(plain.inverses[two], one)])
        return found

    def complements(self):
        """All subgroups with one element in each coset, by trying all elements in the cosets of the generators."""
        plain = self.plain
        found = set()
        for chosen in itertools.product(*[sorted(plain.left_coset(t, self.members)) for t in self.lifts]):
            made = plain.closing(chosen)
            if len(made) * len(self.members) == len(plain.rows) and made & self.members == plain.trivial:
                found.add(made)
        return found


def settings(plains, most=10 ** 9):
    """The normal elementary abelian subgroups with at most so many rows of coordinates for the generators."""
    for plain in plains:
        for members in plain.subgroups():
            if plain.is_normal(members) and is_elementary(plain, members):
                if len(members) ** (plain.group.n - len(plain.places(members))) <= most:
                    yield Setting(plain, members)


class Errors(unittest.TestCase):
    def test_every_subgroup(self):
        for plain in [*tiny_groups(), *small_groups()]:
            for members in plain.subgroups():
                u = Subgroup(plain.group, plain.canonical(members))
                for function in FUNCTIONS:
                    if not plain.is_normal(members):
                        self.assertEqual(raised(Refused, function, plain.group, u).reason, "normal")
                    elif not is_elementary(plain, members):
                        self.assertEqual(raised(Refused, function, plain.group, u).reason, "abelian")
                    elif function is not complements or len(members) ** plain.group.n <= 1000:
                        unchanged(function, plain.group, u)

    def test_malformed_for_every_other_value(self):
        for made in (cyclic(1), symmetric(3), symmetric(4), abelian((3, 2))):
            group = Group(made)
            for value in (*odd_values(), group, made, (), [], whole(group).rows, trivial(Group(cyclic(9))), whole(Group(cyclic(9)))):
                if not isinstance(value, Subgroup) or value.group != group:
                    for function in FUNCTIONS:
                        raised(Malformed, function, group, value)

    def test_malformed_comes_first(self):
        crooked = Subgroup(Group(dihedral(5)), ((1, 0),))
        cycle = whole(Group(cyclic(9)))
        for function in FUNCTIONS:
            self.assertEqual(raised(Refused, function, crooked.group, crooked).reason, "normal")
            self.assertEqual(raised(Refused, function, cycle.group, cycle).reason, "abelian")
            raised(Malformed, function, Group(symmetric(3)), crooked)
            raised(Malformed, function, Group(abelian((3, 3))), cycle)

    def test_normal_comes_before_abelian(self):
        group = Group(symmetric(4))
        u = Subgroup(group, ((1, 0, 0, 0), (0, 1, 0, 0)))
        self.assertEqual(u.order, 6)
        v = Subgroup(group, ((0, 1, 0, 0), (0, 0, 1, 0), (0, 0, 0, 1)))
        for function in FUNCTIONS:
            self.assertEqual(raised(Refused, function, group, u).reason, "normal")
            self.assertEqual(raised(Refused, function, group, v).reason, "abelian")

    def test_abelian_subgroups_that_are_not_elementary(self):
        for made, rows in ((cyclic(4), ((1, 0), (0, 1))), (cyclic(6), ((1, 0), (0, 1))), (abelian((2, 9)), ((0, 1, 0), (0, 0, 1))),
                           (heisenberg(3), ((1, 0, 0), (0, 1, 0), (0, 0, 1))), (dicyclic(2), ((0, 1, 0), (0, 0, 1)))):
            group = Group(made)
            for function in FUNCTIONS:
                self.assertEqual(raised(Refused, function, group, Subgroup(group, rows)).reason, "abelian")


class Equations(unittest.TestCase):
    def test_prime_of(self):
        for setting in settings(all_groups()):
            self.assertEqual(prime_of(setting.plain.group, setting.n), setting.p)
        for made in (cyclic(1), cyclic(3), abelian((5, 5)), symmetric(3)):
            self.assertEqual(prime_of(Group(made), trivial(Group(made))), 2)

    def test_rows_and_right_sides(self):
        for setting in settings(all_groups()):
            rows, right = unchanged(equations, setting.plain.group, setting.n)
            self.assertIsInstance(rows, tuple)
            self.assertIsInstance(right, tuple)
            sides = setting.sides()
            p, width = setting.p, len(setting.lifts) * setting.d
            fixed = setting.values(sides, (0,) * width)
            self.assertEqual(right, tuple(-value % p for value in fixed))
            self.assertEqual(len(rows), setting.d * len(sides))
            self.assertTrue(all(isinstance(row, tuple) and len(row) == width for row in rows))
            for at in range(width):
                unit = tuple(1 if other == at else 0 for other in range(width))
                values = setting.values(sides, unit)
                self.assertEqual([row[at] for row in rows], [(a - b) % p for a, b in zip(values, fixed)])

    def test_they_tell_the_values_for_all_coordinates(self):
        for setting in settings([*tiny_groups(), *small_groups()], 100):
            rows, right = equations(setting.plain.group, setting.n)
            sides = setting.sides()
            for put in every_row(len(setting.lifts) * setting.d, setting.p):
                values = [(sum(a * b for a, b in zip(row, put)) - value) % setting.p for row, value in zip(rows, right)]
                self.assertEqual(values, setting.values(sides, put))

    def test_ends(self):
        for made in (cyclic(1), symmetric(3), symmetric(4)):
            group = Group(made)
            self.assertEqual(equations(group, trivial(group)), ((), ()))
        for made in (abelian((2, 2)), cyclic(5)):
            group = Group(made)
            self.assertEqual(equations(group, whole(group)), ((), ()))


class Complements(unittest.TestCase):
    def test_complements(self):
        for setting in settings(all_groups(), 1000):
            group = setting.plain.group
            expected = sorted(setting.plain.canonical(members) for members in setting.complements())
            found = unchanged(complements, group, setting.n)
            self.assertIsInstance(found, tuple)
            self.assertEqual([u.rows for u in found], expected)
            self.assertTrue(all(isinstance(u, Subgroup) and u.group == group for u in found))

    def test_complement_and_combination(self):
        kinds = []
        for setting in settings(all_groups()):
            group, n, p = setting.plain.group, setting.n, setting.p
            found = unchanged(complement, group, n)
            weights = unchanged(combination, group, n)
            kinds.append(found is None)
            self.assertIs(found is None, weights is not None)
            if found is not None:
                members = set(found.all_members())
                self.assertEqual(found.group, group)
                self.assertEqual(members & setting.members, {group.identity()})
                self.assertEqual(len(members) * len(setting.members), group.order)
            else:
                rows, right = equations(group, n)
                self.assertIsInstance(weights, tuple)
                self.assertEqual(len(weights), len(rows))
                self.assertTrue(all(0 <= weight < p for weight in weights))
                for at in range(len(rows[0])):
                    self.assertEqual(sum(weight * row[at] for weight, row in zip(weights, rows)) % p, 0)
                self.assertEqual(sum(weight * value for weight, value in zip(weights, right)) % p, 1)
        self.assertTrue(kinds.count(True) > 50 and kinds.count(False) > 200)

    def test_many_generators_and_coordinates(self):
        chooser = random.Random(62)
        for made in (direct(dihedral(4), dihedral(4)), direct(symmetric(4), abelian((2, 2))), abelian((2,) * 6),
                     direct(symmetric(3), symmetric(3)), direct(dicyclic(2), abelian((2, 2)))):
            plain = plain_of(made)
            for _ in range(2):
                other = plain_of(plain.other_generators(chooser).presentation)
                for _ in range(6):
                    n = normal_closure(other.group, chooser.sample(other.rows, 3))
                    members = frozenset(n.all_members())
                    if is_elementary(other, members):
                        found = complement(other.group, n)
                        self.assertIs(found is None, combination(other.group, n) is not None)
                        if found is not None:
                            self.assertEqual(set(found.all_members()) & members, {other.one})
                            self.assertEqual(found.order * n.order, len(other.rows))

    def test_there_is_none_exactly_if_none_is_found_by_trying(self):
        for setting in settings(all_groups(), 1000):
            self.assertIs(complement(setting.plain.group, setting.n) is None, not setting.complements())

    def test_there_is_one_if_the_orders_are_prime_to_one_another(self):
        for setting in settings(all_groups()):
            group, n = setting.plain.group, setting.n
            if n.index() % setting.p and n.order > 1:
                self.assertIsNotNone(complement(group, n))
                self.assertEqual(class_count(group, n), 1)

    def test_ends(self):
        for made in (cyclic(1), cyclic(4), symmetric(4)):
            group = Group(made)
            self.assertEqual(complement(group, trivial(group)), whole(group))
            self.assertEqual(complements(group, trivial(group)), (whole(group),))
            self.assertIsNone(combination(group, trivial(group)))
            self.assertEqual((cocycles(group, trivial(group)), coboundaries(group, trivial(group))), ((), ()))
            self.assertEqual(class_count(group, trivial(group)), 1)
        group = Group(abelian((3, 3)))
        self.assertEqual(complements(group, whole(group)), (trivial(group),))
        self.assertEqual(class_count(group, whole(group)), 1)

    def test_refused_many(self):
        group = Group(abelian((2,) * 10))
        line = Subgroup(group, ((0,) * 9 + (1,),))
        self.assertEqual(len(complements(group, line)), 512)
        plane = Subgroup(group, ((0,) * 8 + (1, 0), (0,) * 9 + (1,)))
        self.assertEqual(raised(Refused, complements, group, plane).reason, "many")
        self.assertEqual(complement(group, plane).order, 256)
        self.assertEqual(class_count(group, plane), 2 ** 16)
        group = Group(abelian((31, 31)))
        self.assertEqual(len(complements(group, Subgroup(group, ((0, 1),)))), 31)
        group = Group(abelian((3, 3, 3, 3, 3, 3)))
        u = Subgroup(group, tuple(group.generator(i) for i in (3, 4, 5)))
        self.assertEqual(raised(Refused, complements, group, u).reason, "many")
        u = Subgroup(group, (group.generator(5),))
        self.assertEqual(len(complements(group, u)), 243)

    def test_near_the_bound(self):
        for p, many, expected in ((2, 7, 1024), (3, 5, 729), (5, 4, 625)):
            group = Group(abelian((p,) * many))
            plane = Subgroup(group, (group.generator(0), group.generator(many - 1)))
            if expected > 1000:
                self.assertEqual(raised(Refused, complements, group, plane).reason, "many")
            else:
                self.assertEqual(len({u.rows for u in complements(group, plane)}), expected)

    def test_hundreds_of_complements(self):
        for made, places, many in ((abelian((2,) * 6), (4, 5), 256), (abelian((2,) * 6), (1, 2, 5), 512), (abelian((3,) * 4), (0, 3), 81),
                                   (direct(dihedral(4), abelian((2, 2, 2))), (4, 5), 64)):
            group = Group(made)
            n = Subgroup(group, tuple(group.generator(i) for i in places))
            found = complements(group, n)
            self.assertEqual(len({u.rows for u in found}), many)
            self.assertEqual([u.rows for u in found], sorted(u.rows for u in found))
            for u in found:
                self.assertEqual(u.order * n.order, group.order)
                self.assertEqual(generated(group, u.rows + n.rows), whole(group))

    def test_many_is_refused_above_1000_alone(self):
        for setting in settings(all_groups()):
            group, n = setting.plain.group, setting.n
            many = setting.p ** len(cocycles(group, n)) if complement(group, n) is not None else 0
            if many > 1000:
                self.assertEqual(raised(Refused, complements, group, n).reason, "many")
            elif many > 100:
                self.assertEqual(len(complements(group, n)), many)


class Spaces(unittest.TestCase):
    def test_cocycles(self):
        for setting in settings(all_groups(), 1000):
            group, n, p = setting.plain.group, setting.n, setting.p
            width = len(setting.lifts) * setting.d
            sides = setting.sides()
            fixed = setting.values(sides, (0,) * width)
            solutions = [put for put in every_row(width, p) if setting.values(sides, put) == fixed]
            self.assertEqual(unchanged(cocycles, group, n), span(solutions, width, p))

    def test_coboundaries(self):
        for setting in settings(all_groups()):
            plain, p = setting.plain, setting.p
            rows = []
            for v, row in setting.to_row.items():
                moved = [setting.to_row[plain.conjugated(v, t)] for t in setting.lifts]
                rows.append(tuple((a - b) % p for other in moved for a, b in zip(row, other)))
            width = len(setting.lifts) * setting.d
            self.assertEqual(unchanged(coboundaries, plain.group, setting.n), span(rows, width, p))

    def test_class_count(self):
        for setting in settings(all_groups(), 1000):
            found = setting.complements()
            classes = {frozenset(setting.plain.moved(members, v) for v in setting.members) for members in found}
            self.assertEqual(unchanged(class_count, setting.plain.group, setting.n), len(classes))

    def test_large_groups(self):
        for made, rows, many in ((wreath(cyclic(2), 5), None, 1), (metacyclic(31, 30, 3), ((0, 0, 0, 1),), 1),
                                 (dihedral(512), ((0,) * 9 + (1,),), 0), (direct(symmetric(4), cyclic(2)), ((0,) * 4 + (1,),), 2),
                                 (direct(dihedral(16), dihedral(16)), ((0,) * 9 + (1,),), 0)):
            group = Group(made)
            if rows is None:
                rows = tuple(group.generator(i) for i in range(1, group.n))
            self.assertEqual(class_count(group, Subgroup(group, rows)), many)

    def test_other_generators(self):
        chooser = random.Random(61)
        for made in (symmetric(4), dicyclic(3), direct(symmetric(3), cyclic(4)), wreath(cyclic(3), 2)):
            plain = plain_of(made)
            counts = sorted((setting.n.order, class_count(plain.group, setting.n)) for setting in settings([plain]))
            for _ in range(3):
                other = plain_of(plain.other_generators(chooser).presentation)
                self.assertEqual(sorted((setting.n.order, class_count(other.group, setting.n))
                                        for setting in settings([other])), counts)


if __name__ == "__main__":
    unittest.main()
