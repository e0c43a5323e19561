import math
import random
import unittest

from helpers import odd_values, raised, unchanged
from plain import larger_groups, plain_of, prime_factors, small_groups, tiny_groups
from polychains.build import (abelian, cyclic, dicyclic, dihedral, direct, heisenberg, metacyclic, symmetric, wreath)
from polychains.errors import Malformed, Refused
from polychains.group import Group
from polychains.series import (abelian_invariants, chief_factors, chief_series, commutators, derived_series, exponent,
                               is_abelian, is_nilpotent, lower_central_series, minimal_normal, upper_central_series)
from polychains.subgroup import Subgroup, trivial, whole


def subgroup(plain, members):
    return Subgroup(plain.group, plain.canonical(members))


def members_of(u):
    return frozenset(u.all_members())


def all_groups():
    return [*tiny_groups(), *small_groups(), *larger_groups()]


class SeriesCase(unittest.TestCase):
    def assert_terms(self, terms, plain):
        self.assertIsInstance(terms, tuple)
        for term in terms:
            self.assertIsInstance(term, Subgroup)
            self.assertEqual(term.group, plain.group)
        return [members_of(term) for term in terms]


class Commutators(SeriesCase):
    def test_commutators(self):
        for plain in [*tiny_groups(), *small_groups()]:
            normal = [members for members in plain.subgroups() if plain.is_normal(members)]
            for one in normal:
                for two in normal:
                    found = unchanged(commutators, subgroup(plain, one), subgroup(plain, two))
                    self.assertEqual(found, subgroup(plain, plain.commutators(one, two)))

    def test_some_larger_commutators(self):
        chooser = random.Random(31)
        for plain in larger_groups():
            normal = [members for members in plain.subgroups() if plain.is_normal(members)]
            for _ in range(6):
                one, two = chooser.choices(normal, k=2)
                found = commutators(subgroup(plain, one), subgroup(plain, two))
                self.assertEqual(found, subgroup(plain, plain.commutators(one, two)))

    def test_refused_exactly_if_one_is_not_normal(self):
        for plain in small_groups():
            for one in plain.subgroups():
                for two in (plain.trivial, plain.all, one):
                    for a, b in ((one, two), (two, one)):
                        args = subgroup(plain, a), subgroup(plain, b)
                        if plain.is_normal(one):
                            self.assertEqual(commutators(*args).group, plain.group)
                        else:
                            self.assertEqual(raised(Refused, commutators, *args).reason, "normal")

    def test_malformed_for_every_other_value(self):
        group = Group(symmetric(3))
        for value in (*odd_values(), group, group.presentation, whole(group).rows, whole(Group(cyclic(6)))):
            for good in (whole(group), trivial(group)):
                if isinstance(value, Subgroup) and value.group == group:
                    self.assertEqual(commutators(good, value).group, group)
                else:
                    raised(Malformed, commutators, good, value)
                    raised(Malformed, commutators, value, good)
            if not isinstance(value, Subgroup):
                raised(Malformed, commutators, value, value)

    def test_malformed_before_refused(self):
        group = Group(symmetric(3))
        crooked = Subgroup(group, ((1, 0),))
        other = Subgroup(Group(dihedral(5)), ((1, 0),))
        self.assertEqual(raised(Refused, commutators, crooked, crooked).reason, "normal")
        for value in (other, whole(Group(cyclic(2))), None, crooked.rows):
            raised(Malformed, commutators, crooked, value)
            raised(Malformed, commutators, value, crooked)


class Series(SeriesCase):
    def test_derived_series(self):
        for plain in all_groups():
            terms = self.assert_terms(unchanged(derived_series, plain.group), plain)
            self.assertEqual(terms[0], plain.all)
            self.assertEqual(terms[-1], plain.trivial)
            for before, term in zip(terms, terms[1:]):
                self.assertEqual(term, plain.commutators(before, before))
                self.assertLess(len(term), len(before))

    def test_lower_central_series(self):
        for plain in all_groups():
            terms = self.assert_terms(unchanged(lower_central_series, plain.group), plain)
            self.assertEqual(terms[0], plain.all)
            for before, term in zip(terms, terms[1:]):
                self.assertEqual(term, plain.commutators(before, plain.all))
                self.assertLess(len(term), len(before))
            self.assertEqual(plain.commutators(terms[-1], plain.all), terms[-1])

    def above(self, plain, term):
        """The elements that commute with all elements modulo a normal subgroup."""
        return frozenset(x for x in plain.rows if all(plain.commutator(x, y) in term for y in plain.rows))

    def test_upper_central_series(self):
        for plain in all_groups():
            terms = self.assert_terms(unchanged(upper_central_series, plain.group), plain)
            self.assertEqual(terms[0], plain.trivial)
            for before, term in zip(terms, terms[1:]):
                self.assertEqual(term, self.above(plain, before))
                self.assertLess(len(before), len(term))
            self.assertEqual(self.above(plain, terms[-1]), terms[-1])

    def test_is_nilpotent(self):
        for plain in all_groups():
            found = unchanged(is_nilpotent, plain.group)
            self.assertIs(found, lower_central_series(plain.group)[-1].order == 1)
            self.assertIs(found, upper_central_series(plain.group)[-1].order == plain.group.order)
        for made in (cyclic(1), cyclic(12), dihedral(8), dicyclic(4), heisenberg(3), direct(heisenberg(3), dihedral(4))):
            self.assertIs(is_nilpotent(Group(made)), True)
        for made in (symmetric(3), symmetric(4), dihedral(6), metacyclic(7, 3, 2)):
            self.assertIs(is_nilpotent(Group(made)), False)

    def test_is_abelian(self):
        for plain in all_groups():
            self.assertIs(unchanged(is_abelian, plain.group), plain.is_abelian(plain.rows))

    def test_orders_of_terms(self):
        def orders(terms):
            return [term.order for term in terms]

        group = Group(symmetric(4))
        self.assertEqual(orders(derived_series(group)), [24, 12, 4, 1])
        self.assertEqual(orders(lower_central_series(group)), [24, 12])
        self.assertEqual(orders(upper_central_series(group)), [1])
        group = Group(dihedral(512))
        self.assertEqual(orders(derived_series(group)), [1024, 256, 1])
        self.assertEqual(orders(lower_central_series(group)), [1024, 256, 128, 64, 32, 16, 8, 4, 2, 1])
        self.assertEqual(orders(upper_central_series(group)), [1, 2, 4, 8, 16, 32, 64, 128, 256, 1024])

    def test_order_1(self):
        group = Group(cyclic(1))
        for series in (derived_series, lower_central_series, upper_central_series, chief_series):
            self.assertEqual(series(group), (trivial(group),))
        self.assertIs(is_abelian(group), True)
        self.assertIs(is_nilpotent(group), True)
        self.assertEqual(exponent(group), 1)
        self.assertEqual(abelian_invariants(group), ())
        self.assertIsNone(minimal_normal(group))
        self.assertEqual(chief_factors(group), ())


def plain_invariants(plain):
    """The orders of cyclic groups whose product has as many elements of each order as the quotient by commutators.

    They are found by trying all partitions of the exponents.
    """
    derived = plain.commutators(plain.all, plain.all)
    cosets = {plain.left_coset(x, derived): x for x in plain.rows}
    orders = []
    for x in cosets.values():
        y, order = x, 1
        while y not in derived:
            y = plain.products[y, x]
            order += 1
        orders.append(order)
    found = []
    for p in prime_factors(len(orders)):
        most = max(k for k in range(12) if len(orders) % p ** k == 0)
        right = [parts for parts in partitions(most)
                 if all(sum(p ** k % order == 0 for order in orders) == p ** sum(min(part, k) for part in parts)
                        for k in range(most + 2))]
        assert len(right) == 1
        found.extend(p ** part for part in sorted(right[0]))
    return tuple(found)


def partitions(n, least=1):
    """All ascending tuples of integers from `least` on whose sum is `n`."""
    if n == 0:
        yield ()
    for first in range(least, n + 1):
        for rest in partitions(n - first, first):
            yield (first, *rest)


class Numbers(SeriesCase):
    def test_exponent(self):
        for plain in all_groups():
            self.assertEqual(unchanged(exponent, plain.group), math.lcm(*[plain.order_of(x) for x in plain.rows]))
        for made, expected in ((cyclic(1024), 1024), (abelian((4, 6, 9)), 36), (dihedral(15), 30), (heisenberg(3), 3)):
            self.assertEqual(exponent(Group(made)), expected)

    def test_abelian_invariants(self):
        for plain in all_groups():
            self.assertEqual(unchanged(abelian_invariants, plain.group), plain_invariants(plain))

    def test_invariants_of_constructions(self):
        for made, expected in ((cyclic(12), (4, 3)), (abelian((4, 2, 8)), (2, 4, 8)), (abelian((6, 10, 15)), (2, 2, 3, 3, 5, 5)),
                               (abelian((9, 3, 2)), (2, 3, 9)), (symmetric(4), (2,)), (dihedral(6), (2, 2)),
                               (dicyclic(3), (4,)), (heisenberg(5), (5, 5)), (abelian((31, 31)), (31, 31)),
                               (cyclic(961), (961,)), (cyclic(1024), (1024,)), (abelian((2,) * 10), (2,) * 10),
                               (metacyclic(31, 30, 3), (2, 3, 5)), (abelian((2, 4, 4, 3)), (2, 4, 4, 3))):
            self.assertEqual(abelian_invariants(Group(made)), expected)


class Normal(SeriesCase):
    def normal_subgroups(self, plain):
        return [members for members in plain.subgroups() if plain.is_normal(members)]

    def test_minimal_normal(self):
        for plain in all_groups():
            found = unchanged(minimal_normal, plain.group)
            if len(plain.rows) == 1:
                self.assertIsNone(found)
                continue
            self.assertIsInstance(found, Subgroup)
            self.assertEqual(found.group, plain.group)
            members = members_of(found)
            inside = [other for other in self.normal_subgroups(plain) if other <= members]
            self.assertEqual(sorted(inside, key=len), [plain.trivial, members])

    def test_minimal_normal_of_large_groups(self):
        for made, orders in ((abelian((2,) * 10), (2,)), (wreath(cyclic(2), 7), (2, 8)), (direct(symmetric(4), symmetric(4)), (4,)),
                             (metacyclic(31, 30, 3), (31,)), (wreath(symmetric(3), 2), (9,))):
            self.assertIn(minimal_normal(Group(made)).order, orders)

    def test_chief_series(self):
        for plain in all_groups():
            terms = self.assert_terms(unchanged(chief_series, plain.group), plain)
            self.assertEqual(terms[0], plain.all)
            self.assertEqual(terms[-1], plain.trivial)
            normal = self.normal_subgroups(plain)
            for above, below in zip(terms, terms[1:]):
                self.assertIn(below, normal)
                self.assertTrue(below < above)
                self.assertEqual([other for other in normal if below < other < above], [])

    def test_chief_factors(self):
        for plain in all_groups():
            found = unchanged(chief_factors, plain.group)
            expected = []
            orders = [term.order for term in chief_series(plain.group)]
            for above, below in zip(orders, orders[1:]):
                p = prime_factors(above // below)[0]
                expected.append((p, next(d for d in range(1, 12) if p ** d == above // below)))
            self.assertEqual(found, tuple(sorted(expected)))
            self.assertIsInstance(found, tuple)
            self.assertTrue(all(isinstance(pair, tuple) for pair in found))

    def test_chief_factors_of_constructions(self):
        for made, expected in ((symmetric(4), ((2, 1), (2, 2), (3, 1))), (cyclic(12), ((2, 1), (2, 1), (3, 1))),
                               (wreath(cyclic(2), 7), ((2, 1), (2, 3), (2, 3), (7, 1))),
                               (wreath(cyclic(2), 5), ((2, 1), (2, 4), (5, 1))),
                               (direct(symmetric(4), symmetric(3)), ((2, 1), (2, 1), (2, 2), (3, 1), (3, 1)))):
            self.assertEqual(chief_factors(Group(made)), expected)

    def test_chief_factors_do_not_depend_on_the_presentation(self):
        chooser = random.Random(33)
        for made in (symmetric(4), dihedral(12), dicyclic(6), wreath(cyclic(3), 2), direct(symmetric(3), cyclic(4))):
            plain = plain_of(made)
            for _ in range(4):
                self.assertEqual(chief_factors(plain.other_generators(chooser)), chief_factors(plain.group))


if __name__ == "__main__":
    unittest.main()
