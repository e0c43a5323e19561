import itertools
import unittest

from helpers import every_row_of, is_plain_integer, odd_values, raised, triangle, unchanged
from polychains.build import (abelian, alternating, cyclic, dicyclic, dihedral, direct, heisenberg, metacyclic,
                              semidirect, symmetric, wreath)
from polychains.collect import is_consistent
from polychains.errors import Malformed, Refused
from polychains.group import Group
from polychains.linear import identity
from polychains.pres import Presentation, read_presentation

PRIMES = (2, 3, 5, 7, 11, 13, 17, 19, 23, 29, 31)
TRIVIAL = Presentation((), (), ())
CROOKED = Presentation((2, 3), ((0, 1), (0, 0)), (((0, 2),), ()))


def prime_factors(n):
    """The prime factors of `n`, ascending, as often as they occur."""
    found = []
    p = 2
    while n > 1:
        while n % p == 0:
            found.append(p)
            n = n // p
        p += 1
    return tuple(found)


def fits(order):
    """Whether the order is at most 1024, and no prime factor above 31."""
    return order <= 1024 and all(p in PRIMES for p in prime_factors(order))


class BuildCase(unittest.TestCase):
    def assert_made(self, made, order):
        self.assertIsInstance(made, Presentation)
        self.assertIs(is_consistent(made), True)
        self.assertEqual(made.order, order)
        return Group(made)

    def assert_large(self, function, *args):
        self.assertEqual(raised(Refused, function, *args).reason, "large")

    def assert_action(self, function, *args):
        self.assertEqual(raised(Refused, function, *args).reason, "action")

    def assert_numbers(self, function, before=(), behind=()):
        """Checks that the argument between others is malformed unless it is an integer from 1 on."""
        for value in odd_values():
            if is_plain_integer(value) and value >= 1:
                try:
                    function(*before, value, *behind)
                except Refused as refused:
                    self.assertIn(refused.reason, ("large", "action"))
            else:
                raised(Malformed, function, *before, value, *behind)

    def assert_presentations(self, function, before=(), behind=()):
        """Checks that the argument between others is malformed unless it is a consistent presentation."""
        for value in (*odd_values(), CROOKED, str(triangle()), Group(TRIVIAL)):
            if not isinstance(value, Presentation) or value == CROOKED:
                raised(Malformed, function, *before, value, *behind)

    def assert_cyclic_part(self, group, at, n):
        """Checks that the generators from a place on are those of the cyclic group, and returns them."""
        primes = prime_factors(n)
        self.assertEqual(group.primes[at:at + len(primes)], primes)
        generators = [group.generator(at + i) for i in range(len(primes))]
        power = 1
        for i, p in enumerate(primes):
            self.assertEqual(generators[i], group.power(generators[0], power))
            expected = generators[i + 1] if i + 1 < len(primes) else group.identity()
            self.assertEqual(group.power(generators[i], p), expected)
            self.assertEqual(group.presentation.powers[at + i], expected)
            power = power * p
        if n > 1:
            self.assertEqual(group.order_of(generators[0]), n)
        return generators


class Cyclic(BuildCase):
    def test_cyclic(self):
        for n in range(1, 1030):
            if fits(n):
                made = cyclic(n)
                self.assertEqual(made.primes, prime_factors(n))
                unit = identity(made.n)
                self.assertEqual(made.powers, (unit + ((0,) * made.n,))[1:])
                self.assertEqual(made.conjugates, tuple(unit[i + 1:] for i in range(made.n)))
                if n < 70 or n > 1000:
                    self.assert_cyclic_part(self.assert_made(made, n), 0, n)
            else:
                self.assert_large(cyclic, n)

    def test_texts(self):
        self.assertEqual(str(cyclic(1)), ":")
        self.assertEqual(str(cyclic(2)), "2: 0")
        self.assertEqual(str(cyclic(12)), "2 2 3: 0 1 0; 0 1 0; 0 0 1; 0 0 1; 0 0 1; 0 0 0")

    def test_wrong_arguments(self):
        self.assert_numbers(cyclic)
        for n in (37, 74, 1025, 1026, 2048, 10 ** 400, 2 ** 521 - 1, 7 ** 100):
            self.assert_large(cyclic, n)

    def test_bounds(self):
        self.assertEqual(cyclic(1024).n, 10)
        self.assertEqual(cyclic(31).primes, (31,))
        self.assertEqual(cyclic(961).primes, (31, 31))
        self.assertEqual(cyclic(1023).primes, (3, 11, 31))


class Abelian(BuildCase):
    def test_abelian(self):
        for orders in ((), (1,), (1, 1), (4,), (4, 2), (2, 4), (6, 6), (2, 1, 3), (12, 5, 2), (8, 9, 7), (2,) * 10, (31, 31),
                       (31, 33), (1,) * 50):
            order = 1
            for n in orders:
                order = order * n
            group = self.assert_made(unchanged(abelian, orders), order)
            self.assertEqual(abelian(list(orders)), group.presentation)
            at = 0
            for n in orders:
                self.assert_cyclic_part(group, at, n)
                at += len(prime_factors(n))
            self.assertEqual(group.n, at)
            for i in range(group.n):
                for j in range(i + 1, group.n):
                    self.assertEqual(group.presentation.conjugate_row(i, j), group.generator(j))

    def test_texts(self):
        self.assertEqual(abelian([]), TRIVIAL)
        self.assertEqual(str(abelian((4, 3))), "2 2 3: 0 1 0; 0 1 0; 0 0 1; 0 0 0; 0 0 1; 0 0 0")

    def test_wrong_arguments(self):
        for value in odd_values():
            if isinstance(value, (list, tuple)) and all(is_plain_integer(n) and n >= 1 for n in value):
                if all(n in (1, 2, 3) for n in value):
                    self.assertEqual(abelian(value).primes, tuple(n for n in value if n > 1))
                else:
                    self.assert_large(abelian, value)
            else:
                raised(Malformed, abelian, value)
        for orders in ([2, 0], (2, -3), (2, True), [2, None], (3, "2"), (2, (2,)), ((2, 2), 2), "22", 4):
            raised(Malformed, abelian, orders)

    def test_large(self):
        for orders in ((2,) * 11, [1025], (32, 33), [37], (2, 37), (1, 1, 2048), (10 ** 50,) * 1000, (41, 43)):
            self.assert_large(abelian, orders)
        raised(Malformed, abelian, (2048, 0))
        raised(Malformed, abelian, [37, True])


class Dihedral(BuildCase):
    def test_dihedral(self):
        for n in (*range(1, 34), 64, 100, 128, 256, 500, 510, 512):
            if fits(2 * n):
                group = self.assert_made(dihedral(n), 2 * n)
                self.assertEqual(group.primes, (2,) + prime_factors(n))
                s = group.generator(0)
                self.assertEqual(group.power(s, 2), group.identity())
                for x in self.assert_cyclic_part(group, 1, n):
                    self.assertEqual(group.conjugated(x, s), group.inverse(x))
            else:
                self.assert_large(dihedral, n)

    def test_dicyclic(self):
        for n in (*range(1, 34), 64, 100, 128, 250, 255, 256):
            if fits(4 * n):
                group = self.assert_made(dicyclic(n), 4 * n)
                self.assertEqual(group.primes, (2,) + prime_factors(2 * n))
                s = group.generator(0)
                generators = self.assert_cyclic_part(group, 1, 2 * n)
                self.assertEqual(group.power(s, 2), group.power(generators[0], n))
                self.assertEqual(group.order_of(s), 4)
                for x in generators:
                    self.assertEqual(group.conjugated(x, s), group.inverse(x))
            else:
                self.assert_large(dicyclic, n)

    def test_texts(self):
        self.assertEqual(str(dihedral(1)), "2: 0")
        self.assertEqual(str(dihedral(2)), "2 2: 0 0; 0 1; 0 0")
        self.assertEqual(str(dihedral(3)), "2 3: 0 0; 0 2; 0 0")
        self.assertEqual(str(dihedral(4)), "2 2 2: 0 0 0; 0 1 1; 0 0 1; 0 0 1; 0 0 1; 0 0 0")
        self.assertEqual(str(dicyclic(1)), "2 2: 0 1; 0 1; 0 0")
        self.assertEqual(str(dicyclic(2)), "2 2 2: 0 0 1; 0 1 1; 0 0 1; 0 0 1; 0 0 1; 0 0 0")
        self.assertEqual(str(dicyclic(3)), "2 2 3: 0 1 1; 0 1 2; 0 0 2; 0 0 1; 0 0 1; 0 0 0")

    def test_wrong_arguments(self):
        self.assert_numbers(dihedral)
        self.assert_numbers(dicyclic)
        for n in (37, 513, 514, 1024, 10 ** 300):
            self.assert_large(dihedral, n)
        for n in (37, 257, 258, 512, 10 ** 300):
            self.assert_large(dicyclic, n)
        self.assertEqual((dihedral(512).order, dicyclic(256).order), (1024, 1024))


class Metacyclic(BuildCase):
    def check(self, n, m, k):
        if (k ** m - 1) % n:
            self.assert_action(metacyclic, n, m, k)
            return False
        group = self.assert_made(metacyclic(n, m, k), n * m)
        first = self.assert_cyclic_part(group, 0, m)
        second = self.assert_cyclic_part(group, len(first), n)
        self.assertEqual(group.n, len(first) + len(second))
        if first:
            for x in second:
                self.assertEqual(group.conjugated(x, first[0]), group.power(x, k))
        return True

    def test_metacyclic(self):
        taken = 0
        for n in range(1, 14):
            for m in range(1, 9):
                for k in range(-3, n + 2):
                    taken += self.check(n, m, k)
        self.assertGreater(taken, 200)

    def test_some(self):
        self.assertTrue(self.check(31, 30, 3))
        self.assertTrue(self.check(31, 5, 2))
        self.assertTrue(self.check(25, 20, 2))
        self.assertFalse(self.check(25, 10, 2))
        self.assertTrue(self.check(32, 8, 3))
        self.assertEqual(str(metacyclic(7, 3, 2)), "3 7: 0 0; 0 2; 0 0")
        self.assertEqual(metacyclic(3, 2, 2), triangle())

    def test_large_and_negative_exponents(self):
        self.assertEqual(metacyclic(7, 3, 7 * 10 ** 300 + 2), metacyclic(7, 3, 2))
        self.assertEqual(metacyclic(7, 3, -7 * 10 ** 300 + 4), metacyclic(7, 3, 4))
        self.assertEqual(metacyclic(9, 2, -1), metacyclic(9, 2, 8))

    def test_smallest_arguments(self):
        for k in (-1, 0, 1, 2, 10 ** 20):
            self.assertEqual(metacyclic(1, 1, k), TRIVIAL)
            self.assertEqual(metacyclic(1, 6, k), cyclic(6))
        self.assertEqual(metacyclic(6, 1, 1), cyclic(6))
        self.assertEqual(metacyclic(6, 1, 7), cyclic(6))
        self.assert_action(metacyclic, 6, 1, 5)
        self.assert_action(metacyclic, 2, 2, 0)

    def test_wrong_arguments(self):
        self.assert_numbers(metacyclic, (), (2, 1))
        self.assert_numbers(metacyclic, (3,), (1,))
        for value in odd_values():
            if is_plain_integer(value):
                self.check(5, 4, value if abs(value) < 100 else value // 10 ** 40)
            else:
                raised(Malformed, metacyclic, 5, 4, value)

    def test_order_of_the_errors(self):
        raised(Malformed, metacyclic, 2048, 1, None)
        raised(Malformed, metacyclic, 2048, 0, 1)
        raised(Malformed, metacyclic, 0, 2048, 1)
        raised(Malformed, metacyclic, True, 37, 1)
        for n, m, k in ((2048, 1, 2), (1025, 1, 1), (1, 1025, 1), (33, 32, 2), (37, 1, 2), (1, 37, 1), (37, 2, 3),
                        (10 ** 300, 10 ** 300, 10 ** 300)):
            self.assert_large(metacyclic, n, m, k)
        self.assert_action(metacyclic, 512, 2, 2)
        self.assertEqual(metacyclic(32, 32, 3).order, 1024)


class Heisenberg(BuildCase):
    def test_heisenberg(self):
        for p in (2, 3, 5, 7):
            group = self.assert_made(heisenberg(p), p ** 3)
            self.assertEqual(group.primes, (p, p, p))
            self.assertEqual(group.presentation.powers, ((0, 0, 0),) * 3)
            self.assertEqual(group.presentation.conjugates, (((0, 1, 1), (0, 0, 1)), ((0, 0, 1),), ()))

    def test_wrong_arguments(self):
        for value in (*odd_values(), 4, 6, 8, 9, 33, 41, 1009):
            if is_plain_integer(value) and value in PRIMES:
                continue
            raised(Malformed, heisenberg, value)
        for p in (11, 13, 17, 19, 23, 29, 31):
            self.assert_large(heisenberg, p)


def after(x, y):
    return tuple(y[place] for place in x)


class Arrangements(BuildCase):
    """The symmetric and alternating groups, compared with arrangements of points."""

    GENERATORS = {
        1: [], 2: [(1, 0)], 3: [(1, 0, 2), (1, 2, 0)],
        4: [(1, 0, 2, 3), (1, 2, 0, 3), (1, 0, 3, 2), (2, 3, 0, 1)],
    }

    def check(self, made, generators, expected):
        group = self.assert_made(made, len(expected))
        self.assertEqual(group.n, len(generators))
        of = {}
        for row in group.all_elements():
            result = min(expected)
            for item, generator in zip(row, generators):
                for _ in range(item):
                    result = after(result, generator)
            of[row] = result
        self.assertEqual(sorted(of.values()), sorted(expected))
        for x in of:
            for y in of:
                self.assertEqual(of[group.multiply(x, y)], after(of[x], of[y]))

    def test_symmetric(self):
        for n in (1, 2, 3, 4):
            self.check(symmetric(n), self.GENERATORS[n], list(itertools.permutations(range(n))))
        self.assertEqual([symmetric(n).primes for n in (1, 2, 3, 4)], [(), (2,), (2, 3), (2, 3, 2, 2)])

    def test_alternating(self):
        for n in (1, 2, 3, 4):
            even = [x for x in itertools.permutations(range(n))
                    if sum(x[i] > x[j] for i in range(n) for j in range(i + 1, n)) % 2 == 0]
            self.check(alternating(n), self.GENERATORS[n][1:], even)
        self.assertEqual([alternating(n).primes for n in (1, 2, 3, 4)], [(), (), (3,), (3, 2, 2)])

    def test_texts(self):
        self.assertEqual(str(symmetric(4)), "2 3 2 2: 0 0 0 0; 0 2 0 0; 0 0 1 0; 0 0 1 1; 0 0 0 0; 0 0 1 1; 0 0 1 0; "
                                            "0 0 0 0; 0 0 0 1; 0 0 0 0")
        self.assertEqual(str(alternating(4)), "3 2 2: 0 0 0; 0 1 1; 0 1 0; 0 0 0; 0 0 1; 0 0 0")

    def test_wrong_arguments(self):
        for value in (*odd_values(), 4, 5, 6):
            if not (is_plain_integer(value) and 1 <= value <= 4):
                raised(Malformed, symmetric, value)
                raised(Malformed, alternating, value)


class Direct(BuildCase):
    def check(self, a, b):
        one, two = Group(a), Group(b)
        group = self.assert_made(direct(a, b), one.order * two.order)
        self.assertEqual(group.primes, a.primes + b.primes)
        for x, y in itertools.product(every_row_of(a.primes), repeat=2):
            for v, w in itertools.product(list(every_row_of(b.primes))[-4:], repeat=2):
                self.assertEqual(group.multiply(x + v, y + w), one.multiply(x, y) + two.multiply(v, w))

    def test_direct(self):
        parts = (TRIVIAL, cyclic(2), cyclic(4), triangle(), dicyclic(2), alternating(4))
        for a in parts:
            for b in parts:
                self.check(a, b)
        self.assertEqual(direct(TRIVIAL, TRIVIAL), TRIVIAL)
        self.assertEqual(direct(triangle(), TRIVIAL), triangle())
        self.assertEqual(direct(TRIVIAL, triangle()), triangle())
        self.assertEqual(str(direct(triangle(), cyclic(4))),
                         "2 3 2 2: 0 0 0 0; 0 2 0 0; 0 0 1 0; 0 0 0 1; 0 0 0 0; 0 0 1 0; 0 0 0 1; 0 0 0 1; 0 0 0 1; "
                         "0 0 0 0")

    def test_wrong_arguments(self):
        self.assert_presentations(direct, (), (cyclic(2),))
        self.assert_presentations(direct, (cyclic(2),))
        self.assert_presentations(direct, (cyclic(1024),))
        self.assert_large(direct, cyclic(1024), cyclic(2))
        self.assert_large(direct, cyclic(32), cyclic(33))
        self.assertEqual(direct(cyclic(32), cyclic(32)).order, 1024)
        self.assertEqual(direct(cyclic(1024), TRIVIAL), cyclic(1024))


class Semidirect(BuildCase):
    def check(self, a, b, images):
        group = self.assert_made(unchanged(semidirect, a, b, images), a.order * b.order)
        self.assertEqual(group.primes, b.primes + a.primes)
        for i in range(b.n):
            self.assertEqual(group.presentation.powers[i], b.powers[i] + (0,) * a.n)
            for j in range(i + 1, b.n):
                self.assertEqual(group.presentation.conjugate_row(i, j), b.conjugate_row(i, j) + (0,) * a.n)
            for j in range(a.n):
                self.assertEqual(group.presentation.conjugate_row(i, b.n + j), (0,) * b.n + images[i][j])
        for i in range(a.n):
            self.assertEqual(group.presentation.powers[b.n + i], (0,) * b.n + a.powers[i])
            for j in range(i + 1, a.n):
                self.assertEqual(group.presentation.conjugate_row(b.n + i, b.n + j), (0,) * b.n + a.conjugate_row(i, j))
        return group

    def test_semidirect(self):
        four = abelian([2, 2])
        self.check(cyclic(7), cyclic(3), [[(2,)]])
        self.check(cyclic(7), cyclic(3), (((2,),),))
        self.check(four, cyclic(3), [((1, 1), (1, 0))])
        self.check(four, symmetric(3), [[(0, 1), (1, 0)], [(0, 1), (1, 1)]])
        self.check(symmetric(3), cyclic(2), [[(1, 1), (0, 2)]])
        self.check(TRIVIAL, triangle(), [[], ()])
        self.check(triangle(), TRIVIAL, [])
        self.check(TRIVIAL, TRIVIAL, ())
        self.assertEqual(semidirect(cyclic(3), cyclic(2), (((2,),),)), triangle())
        self.assertEqual(semidirect(four, cyclic(3), [((1, 1), (1, 0))]), alternating(4))

    def test_action_exactly_if_it_is_a_group(self):
        # All maps of C(2) x C(2), one for the generator of C(2) or C(3): automorphisms of this order.
        four = abelian([2, 2])
        rows = every_row_of((2, 2))
        for p in (2, 3):
            for one, two in itertools.product(rows, repeat=2):
                def moved(row):
                    return tuple((row[0] * x + row[1] * y) % 2 for x, y in zip(one, two))
                done = rows
                for _ in range(p):
                    done = [moved(row) for row in done]
                if done == rows:
                    self.check(four, cyclic(p), [[one, two]])
                else:
                    self.assert_action(semidirect, four, cyclic(p), [[one, two]])

    def test_maps_of_nonabelian_groups(self):
        group = Group(symmetric(3))
        for s in group.all_elements():
            for r in group.all_elements():
                well = group.order_of(s) == 2 and group.order_of(r) == 3
                of = {}
                for e, f in group.all_elements():
                    of[e, f] = group.multiply(group.power(s, e), group.power(r, f))
                if well and all(of[of[x]] == x for x in of):
                    self.check(symmetric(3), cyclic(2), [[s, r]])
                else:
                    self.assert_action(semidirect, symmetric(3), cyclic(2), [[s, r]])

    def test_left_one_first(self):
        # The generators of S(3) act on C(2) x C(2) as matrices; g_1^g_0 = g_1^2 must hold for them.
        four = abelian([2, 2])
        self.assert_action(semidirect, four, cyclic(6), [[(0, 1), (1, 1)], [(0, 1), (1, 1)]])
        self.check(four, cyclic(6), [[(0, 1), (1, 1)], [(1, 1), (1, 0)]])

    def test_wrong_arguments(self):
        self.assert_presentations(semidirect, (), (cyclic(2), [[(1,)]]))
        self.assert_presentations(semidirect, (cyclic(3),), ([[(1,)]],))
        for value in odd_values():
            raised(Malformed, semidirect, cyclic(3), cyclic(2), value)
            if value not in (((0, 0), (0, 0)), [(0, 0), (0, 0)]):
                raised(Malformed, semidirect, abelian([3, 3]), cyclic(2), [value])
            raised(Malformed, semidirect, abelian([3, 3]), cyclic(2), [[(0, 2), value, (1, 1)]])
            if value not in ((0, 0), (0, 1), (1, 1)):
                raised(Malformed, semidirect, abelian([3, 3]), cyclic(2), [[(0, 2), value]])
        for images in ([], [[]], [[(1,), (1,)]], [[(1,)], [(1,)]], [[[1]]], [[(3,)]], [[(True,)]], [[(1, 0)]], [(1,)],
                       "a", None):
            raised(Malformed, semidirect, cyclic(3), cyclic(2), images)
        for images in ([[]], [[()]], ((),), (0,)):
            raised(Malformed, semidirect, TRIVIAL, TRIVIAL, images)

    def test_order_of_the_errors(self):
        unit = identity(10)
        self.assert_large(semidirect, cyclic(1024), cyclic(2), [unit])
        self.assert_large(semidirect, cyclic(1024), cyclic(2), [unit[::-1]])
        raised(Malformed, semidirect, cyclic(1024), cyclic(2), [unit[1:]])
        raised(Malformed, semidirect, cyclic(1024), cyclic(2), None)
        raised(Malformed, semidirect, cyclic(1024), CROOKED, [unit, unit])
        self.assert_action(semidirect, cyclic(512), cyclic(2), [identity(9)[::-1]])
        self.assertEqual(semidirect(cyclic(512), cyclic(2), [identity(9)]).order, 1024)


class Wreath(BuildCase):
    def check(self, a, p):
        made = unchanged(wreath, a, p)
        group = self.assert_made(made, p * a.order ** p)
        self.assertEqual(group.primes, (p,) + a.primes * p)
        self.assertEqual(made.powers[0], group.identity())
        for copy in range(p):
            at = 1 + copy * a.n
            left, right = (0,) * at, (0,) * (group.n - at - a.n)
            for i in range(a.n):
                self.assertEqual(made.powers[at + i], left + a.powers[i] + right)
                expected = 1 + (copy + 1) % p * a.n + i
                self.assertEqual(made.conjugate_row(0, at + i), group.generator(expected))
                for j in range(i + 1, a.n):
                    self.assertEqual(made.conjugate_row(at + i, at + j), left + a.conjugate_row(i, j) + right)
                for j in range(at + a.n, group.n):
                    self.assertEqual(made.conjugate_row(at + i, j), group.generator(j))

    def test_wreath(self):
        for a, p in ((cyclic(2), 2), (cyclic(2), 3), (cyclic(3), 2), (cyclic(3), 3), (cyclic(4), 2), (cyclic(4), 3),
                     (symmetric(3), 2), (dicyclic(2), 2), (cyclic(2), 7), (abelian([2, 2]), 2), (alternating(4), 2),
                     (cyclic(22), 2), (cyclic(6), 3)):
            self.check(a, p)

    def test_smallest_arguments(self):
        for p in PRIMES:
            self.assertEqual(wreath(TRIVIAL, p), cyclic(p))
        self.assertEqual(str(wreath(cyclic(2), 2)), "2 2 2: 0 0 0; 0 0 1; 0 1 0; 0 0 0; 0 0 1; 0 0 0")

    def test_wrong_arguments(self):
        self.assert_presentations(wreath, (), (2,))
        for value in (*odd_values(), 4, 6, 9, 41):
            if is_plain_integer(value) and value in PRIMES:
                continue
            raised(Malformed, wreath, cyclic(2), value)
            raised(Malformed, wreath, cyclic(1024), value)
        raised(Malformed, wreath, CROOKED, 31)

    def test_large(self):
        self.assert_large(wreath, symmetric(4), 2)
        self.assert_large(wreath, cyclic(2), 11)
        self.assert_large(wreath, cyclic(23), 2)
        self.assert_large(wreath, cyclic(7), 3)
        self.assert_large(wreath, cyclic(1024), 31)
        self.assertEqual(wreath(cyclic(22), 2).order, 968)
        self.assertEqual(wreath(cyclic(2), 7).order, 896)


class Results(BuildCase):
    def test_all_results_are_consistent_presentations_with_texts(self):
        for made in (cyclic(30), abelian([4, 6]), dihedral(6), dicyclic(5), metacyclic(13, 12, 2), heisenberg(5), symmetric(4),
                     alternating(4), direct(triangle(), cyclic(2)), semidirect(cyclic(5), cyclic(4), [[(3,)], [(4,)]]),
                     wreath(cyclic(5), 2)):
            self.assertIs(is_consistent(made), True)
            self.assertEqual(read_presentation(str(made)), made)

    def test_arguments_by_keyword(self):
        self.assertEqual(cyclic(n=4), cyclic(4))
        self.assertEqual(abelian(orders=[4]), cyclic(4))
        self.assertEqual(dihedral(n=3), triangle())
        self.assertEqual(dicyclic(n=2), dicyclic(2))
        self.assertEqual(metacyclic(k=2, m=2, n=3), triangle())
        self.assertEqual(heisenberg(p=2), heisenberg(2))
        self.assertEqual(symmetric(n=3), triangle())
        self.assertEqual(alternating(n=3), cyclic(3))
        self.assertEqual(direct(b=cyclic(2), a=cyclic(3)), abelian([3, 2]))
        self.assertEqual(semidirect(images=[[(2,)]], b=cyclic(2), a=cyclic(3)), triangle())
        self.assertEqual(wreath(p=2, a=TRIVIAL), cyclic(2))


if __name__ == "__main__":
    unittest.main()
