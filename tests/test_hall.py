import itertools
import random
import unittest

from helpers import odd_values, raised, unchanged
from plain import larger_groups, plain_of, prime_factors, small_groups, tiny_groups
from polychains.build import (abelian, alternating, cyclic, dihedral, direct, metacyclic, semidirect, symmetric,
                              wreath)
from polychains.errors import Malformed, Refused
from polychains.group import Group
from polychains.hall import hall, is_hall, moved_into, sylow, sylow_count, sylow_system
from polychains.subgroup import Subgroup, conjugated, generated, trivial, whole

SETS = [primes for many in range(4) for primes in itertools.combinations((2, 3, 5, 7), many)] + [(31,), (2, 3, 5, 7, 11, 31)]
NO_PRIMES = (0, 1, 4, 6, 9, 32, 37, -2, True, False, None, "2", (2,), [2])


def is_hall_order(order, whole_order, primes):
    return (all(p in primes for p in prime_factors(order))
            and not any(p in primes for p in prime_factors(whole_order // order)))


def subgroups(plain):
    for members in plain.subgroups():
        yield members, Subgroup(plain.group, plain.canonical(members))


def all_groups():
    return [*tiny_groups(), *small_groups(), *larger_groups()]


def by_triangle(p):
    """The rows of the length 2 modulo a prime, on which the symmetric group of 3 points acts.

    They stand for sums of multiples of `e_0 - e_1` and `e_1 - e_2`, and the points move `e_0, e_1, e_2`.
    """
    return semidirect(abelian((p, p)), symmetric(3), [[(p - 1, 0), (1, 1)], [(0, 1), (p - 1, p - 1)]])


class Hall(unittest.TestCase):
    def test_is_hall(self):
        for plain in all_groups():
            for members, u in subgroups(plain):
                for primes in SETS:
                    expected = is_hall_order(len(members), len(plain.rows), primes)
                    self.assertIs(is_hall(plain.group, u, primes), expected)
                    self.assertIs(unchanged(is_hall, plain.group, u, list(primes)), expected)

    def test_hall(self):
        for plain in all_groups():
            for primes in SETS:
                for value in (primes, list(primes), primes[::-1] + primes):
                    u = unchanged(hall, plain.group, value)
                    self.assertIsInstance(u, Subgroup)
                    self.assertEqual(u.group, plain.group)
                    self.assertTrue(is_hall_order(u.order, len(plain.rows), primes))

    def test_ends(self):
        for plain in small_groups():
            self.assertEqual(hall(plain.group, ()), trivial(plain.group))
            self.assertEqual(hall(plain.group, [11, 13]), trivial(plain.group))
            self.assertEqual(hall(plain.group, (2, 3, 5, 7)), whole(plain.group))

    def test_sylow(self):
        for plain in all_groups():
            for p in (2, 3, 5, 7, 31):
                u = unchanged(sylow, plain.group, p)
                self.assertTrue(is_hall_order(u.order, len(plain.rows), (p,)))
                self.assertEqual(u.group, plain.group)

    def test_large_groups(self):
        for made, primes, order in ((direct(symmetric(4), symmetric(4)), (2,), 64), (direct(symmetric(4), symmetric(4)), (3,), 9),
                                    (wreath(cyclic(2), 7), (7,), 7), (metacyclic(31, 30, 3), (2, 3, 31), 186),
                                    (metacyclic(31, 30, 3), (2, 3, 5), 30), (direct(metacyclic(7, 6, 3), symmetric(4)), (3, 7), 63),
                                    (direct(metacyclic(7, 6, 3), symmetric(4)), (2, 7), 112), (wreath(alternating(4), 2), (2,), 32)):
            group = Group(made)
            u = hall(group, primes)
            self.assertEqual(u.order, order)
            self.assertIs(is_hall(group, u, primes), True)

    def test_malformed_primes(self):
        for made in (cyclic(1), symmetric(3), abelian((3, 2))):
            group = Group(made)
            u = trivial(group)
            for value in (*odd_values(), whole(group), group):
                good = (isinstance(value, (list, tuple))
                        and all(p.__class__ is int and p in (2, 3, 5, 7, 11, 13, 17, 19, 23, 29, 31) for p in value))
                if good:
                    self.assertIs(is_hall(group, hall(group, value), value), True)
                else:
                    raised(Malformed, hall, group, value)
                    raised(Malformed, is_hall, group, u, value)
            for odd in NO_PRIMES:
                for value in ([odd], (odd,), (2, odd), [3, odd, 2]):
                    raised(Malformed, hall, group, value)
                    raised(Malformed, is_hall, group, u, value)

    def test_malformed_prime(self):
        for made in (cyclic(1), symmetric(3)):
            group = Group(made)
            for value in (*odd_values(), *NO_PRIMES):
                if value.__class__ is int and value in (2, 3, 31):
                    self.assertEqual(sylow(group, value), hall(group, [value]))
                    self.assertEqual(sylow_count(group, value) % value, 1)
                else:
                    raised(Malformed, sylow, group, value)
                    raised(Malformed, sylow_count, group, value)

    def test_malformed_subgroups(self):
        group = Group(symmetric(3))
        for value in (*odd_values(), group, (), ((0, 1),), whole(Group(cyclic(6))), trivial(Group(cyclic(2)))):
            if not isinstance(value, Subgroup) or value.group != group:
                raised(Malformed, is_hall, group, value, (2,))
                raised(Malformed, moved_into, group, value, whole(group))
                raised(Malformed, moved_into, group, trivial(group), value)
                raised(Malformed, moved_into, group, value, value)


class Moving(unittest.TestCase):
    def test_all_pairs_of_subgroups(self):
        for plain in [*tiny_groups(), *small_groups()]:
            pairs = list(subgroups(plain))
            for inside, h in pairs:
                primes = prime_factors(h.order)
                fits = is_hall_order(h.order, len(plain.rows), primes)
                for members, u in pairs:
                    if fits and all(p in primes for p in prime_factors(u.order)):
                        x = moved_into(plain.group, u, h)
                        self.assertTrue(plain.group.is_element(x))
                        self.assertTrue(plain.moved(members, x) <= inside)
                    else:
                        self.assertEqual(raised(Refused, moved_into, plain.group, u, h).reason, "order")

    def test_larger_groups(self):
        for plain in larger_groups():
            for primes in SETS:
                h = hall(plain.group, primes)
                inside = set(h.all_members())
                for members, u in subgroups(plain):
                    if all(p in prime_factors(h.order) for p in prime_factors(u.order)):
                        x = unchanged(moved_into, plain.group, u, h)
                        self.assertTrue(plain.moved(members, x) <= inside)

    def test_large_groups(self):
        chooser = random.Random(71)
        for made in (direct(symmetric(4), symmetric(4)), wreath(cyclic(2), 7), metacyclic(31, 30, 3), wreath(symmetric(3), 2),
                     direct(metacyclic(7, 6, 3), symmetric(4)), direct(dihedral(15), dihedral(9)), wreath(alternating(4), 2),
                     by_triangle(5), by_triangle(7), by_triangle(11)):
            group = Group(made)
            rows = list(group.all_elements())
            for primes in ((2,), (3,), (7,), (2, 3), (3, 5), (2, 7), (2, 3, 7)):
                h = hall(group, primes)
                for _ in range(3):
                    full = conjugated(h, chooser.choice(rows))
                    part = generated(group, full.rows[chooser.randrange(2)::2])
                    for u in (full, part):
                        self.assertTrue(conjugated(u, moved_into(group, u, h)).is_inside(h))

    def test_malformed_comes_before_refused(self):
        group = Group(symmetric(4))
        middle = Subgroup(group, ((0, 0, 1, 0), (0, 0, 0, 1)))
        self.assertEqual(raised(Refused, moved_into, group, trivial(group), middle).reason, "order")
        self.assertEqual(raised(Refused, moved_into, group, middle, trivial(group)).reason, "order")
        raised(Malformed, moved_into, group, whole(Group(cyclic(2))), middle)
        raised(Malformed, moved_into, group, None, middle)
        raised(Malformed, moved_into, group, middle, ())
        self.assertEqual(moved_into(group, trivial(group), trivial(group)), group.identity())


class Sylow(unittest.TestCase):
    def test_sylow_counts(self):
        for plain in all_groups():
            for p in (2, 3, 5, 7, 31):
                found = [members for members in plain.subgroups() if is_hall_order(len(members), len(plain.rows), (p,))]
                self.assertEqual(unchanged(sylow_count, plain.group, p), len(found))
                conjugates = {plain.moved(found[0], x) for x in plain.rows}
                self.assertEqual(conjugates, set(found))
                self.assertEqual(len(found) % p, 1)

    def test_sylow_counts_of_large_groups(self):
        for made, p, many in ((direct(symmetric(4), symmetric(4)), 3, 16), (direct(symmetric(4), symmetric(4)), 2, 9),
                              (wreath(cyclic(2), 7), 7, 64), (metacyclic(31, 30, 3), 5, 31), (dihedral(31), 2, 31)):
            self.assertEqual(sylow_count(Group(made), p), many)

    def assert_system(self, group, found):
        self.assertIsInstance(found, tuple)
        primes = prime_factors(group.order)
        self.assertEqual(len(found), len(primes))
        for p, u in zip(primes, found):
            self.assertIsInstance(u, Subgroup)
            self.assertEqual(u.group, group)
            self.assertTrue(is_hall_order(u.order, group.order, (p,)))
        for one, two in itertools.combinations(found, 2):
            forth = {group.multiply(x, y) for x in one.all_members() for y in two.all_members()}
            back = {group.multiply(y, x) for x in one.all_members() for y in two.all_members()}
            self.assertEqual(forth, back)

    def test_sylow_systems(self):
        chooser = random.Random(72)
        for plain in all_groups():
            self.assert_system(plain.group, unchanged(sylow_system, plain.group))
        for made in (symmetric(4), dihedral(6), direct(symmetric(3), symmetric(3)), metacyclic(7, 6, 3), dihedral(15)):
            for _ in range(3):
                other = plain_of(made).other_generators(chooser)
                self.assert_system(other, sylow_system(other))

    def test_sylow_systems_of_large_groups(self):
        for made in (direct(symmetric(4), symmetric(4)), metacyclic(31, 30, 3), direct(metacyclic(7, 6, 3), dihedral(5)),
                     direct(dihedral(15), dihedral(7)), cyclic(1024)):
            group = Group(made)
            self.assert_system(group, sylow_system(group))

    def test_few_primes(self):
        self.assertEqual(sylow_system(Group(cyclic(1))), ())
        for made in (cyclic(8), dihedral(4), abelian((3, 3))):
            group = Group(made)
            self.assertEqual(sylow_system(group), (whole(group),))


if __name__ == "__main__":
    unittest.main()
