import itertools
import unittest

from helpers import (every_presentation, every_row_of, is_plain_integer, odd_values, plain_word, plainly_collected,
                     raised, triangle, unchanged)
from polychains.build import abelian, cyclic, dicyclic, dihedral, direct, heisenberg, metacyclic, symmetric, wreath
from polychains.collect import is_consistent
from polychains.errors import Malformed, Refused
from polychains.group import Group
from polychains.pres import Presentation

TRIVIAL = Presentation((), (), ())


def after(x, y):
    """The arrangement that does `x` first, then `y`."""
    return tuple(y[place] for place in x)


def turned(x):
    return tuple(x.index(place) for place in range(len(x)))


# (0 1), (0 1 2), (0 1)(2 3), (0 2)(1 3), each as the tuple of the points to which it takes 0, 1, 2, 3.
ARRANGEMENTS = ((1, 0, 2, 3), (1, 2, 0, 3), (1, 0, 3, 2), (2, 3, 0, 1))


def arrangement_of(row):
    result = (0, 1, 2, 3)
    for item, generator in zip(row, ARRANGEMENTS):
        for _ in range(item):
            result = after(result, generator)
    return result


class GroupCase(unittest.TestCase):
    def groups(self):
        for made in (TRIVIAL, cyclic(2), cyclic(12), triangle(), dihedral(4), dicyclic(2), dicyclic(3), heisenberg(3),
                     abelian((2, 2, 3)), metacyclic(7, 3, 2), symmetric(4), wreath(cyclic(2), 2)):
            yield Group(made)


class Making(GroupCase):
    def test_refused_if_not_consistent(self):
        for primes in ((2,), (2, 3), (3, 2), (2, 2, 2)):
            for made in every_presentation(primes):
                if is_consistent(made):
                    self.assertEqual(Group(made).presentation, made)
                else:
                    self.assertEqual(raised(Refused, Group, made).reason, "consistent")

    def test_fields(self):
        group = Group(triangle())
        self.assertEqual((group.presentation, group.n, group.primes, group.order), (triangle(), 2, (2, 3), 6))
        group = Group(TRIVIAL)
        self.assertEqual((group.presentation, group.n, group.primes, group.order), (TRIVIAL, 0, (), 1))
        self.assertEqual(Group(presentation=triangle()).order, 6)

    def test_equality(self):
        self.assertTrue(Group(triangle()) == Group(symmetric(3)))
        self.assertFalse(Group(triangle()) != Group(symmetric(3)))
        self.assertFalse(Group(triangle()) == Group(cyclic(6)))
        self.assertTrue(Group(TRIVIAL) == Group(cyclic(1)))
        self.assertFalse(Group(cyclic(4)) == Group(abelian([2, 2])))

    def test_equality_for_every_value(self):
        for group in (Group(triangle()), Group(TRIVIAL)):
            for value in (*odd_values(), group.presentation, str(group.presentation), group.primes):
                expected = isinstance(value, Group) and value.presentation == group.presentation
                self.assertIs(group == value, expected)
                self.assertIs(group != value, not expected)

    def test_is_element_for_every_value(self):
        for group in self.groups():
            for value in (*odd_values(), (0,) * group.n, [0] * group.n, group.primes, (False,) * group.n):
                expected = (isinstance(value, tuple) and len(value) == group.n
                            and all(is_plain_integer(item) and 0 <= item < p
                                    for item, p in zip(value, group.primes)))
                self.assertIs(group.is_element(value), expected, value)

    def test_identity_and_generators(self):
        for group in self.groups():
            self.assertEqual(group.identity(), (0,) * group.n)
            for i in range(group.n):
                self.assertEqual(group.generator(i), (0,) * i + (1,) + (0,) * (group.n - i - 1))

    def test_all_elements(self):
        for group in self.groups():
            found = list(group.all_elements())
            self.assertEqual(found, every_row_of(group.primes))
            self.assertEqual(len(found), group.order)
            rows = group.all_elements()
            self.assertIs(iter(rows), rows)


class Products(GroupCase):
    def test_products_are_collected(self):
        for group in self.groups():
            some = list(group.all_elements())[:30]
            for x in some:
                for y in some:
                    self.assertEqual(unchanged(group.multiply, x, y),
                                     plainly_collected(group.presentation, plain_word(x) + plain_word(y)))

    def test_arrangements(self):
        group = Group(symmetric(4))
        rows = list(group.all_elements())
        of = {row: arrangement_of(row) for row in rows}
        self.assertEqual(sorted(of.values()), sorted(itertools.permutations(range(4))))
        for x in rows:
            self.assertEqual(of[group.inverse(x)], turned(of[x]))
            for y in rows:
                back = turned(of[y])
                self.assertEqual(of[group.multiply(x, y)], after(of[x], of[y]))
                self.assertEqual(of[group.conjugated(x, y)], after(after(back, of[x]), of[y]))
                self.assertEqual(of[group.commutator(x, y)],
                                 after(after(turned(of[x]), back), after(of[x], of[y])))

    def test_inverses(self):
        for group in self.groups():
            for x in group.all_elements():
                found = unchanged(group.inverse, x)
                self.assertTrue(group.is_element(found))
                self.assertEqual(group.multiply(x, found), group.identity())
                self.assertEqual(group.multiply(found, x), group.identity())

    def test_divided(self):
        for group in self.groups():
            some = list(group.all_elements())[-25:]
            for x in some:
                for y in some:
                    found = unchanged(group.divided, x, y)
                    self.assertTrue(group.is_element(found))
                    self.assertEqual(group.multiply(x, found), y)

    def test_powers(self):
        for group in self.groups():
            for x in list(group.all_elements())[:40]:
                expected = group.identity()
                back = group.inverse(x)
                for k in range(15):
                    self.assertEqual(group.power(x, k), expected)
                    expected = group.multiply(expected, x)
                expected = group.identity()
                for k in range(15):
                    self.assertEqual(group.power(x, -k), expected)
                    expected = group.multiply(expected, back)

    def test_large_powers(self):
        for group in self.groups():
            for x in list(group.all_elements())[:40]:
                for k in (10 ** 30, 10 ** 30 + 1, -10 ** 30 - 7, 2 ** 4000 + 5, -(3 ** 900), group.order, 10 ** 5):
                    self.assertEqual(group.power(x, k), group.power(x, k % group.order_of(x)))

    def test_conjugates_and_commutators(self):
        for group in self.groups():
            some = list(group.all_elements())[-20:]
            for x in some:
                for y in some:
                    moved = unchanged(group.conjugated, x, y)
                    self.assertEqual(group.multiply(y, moved), group.multiply(x, y))
                    found = unchanged(group.commutator, x, y)
                    self.assertEqual(group.multiply(group.multiply(y, x), found), group.multiply(x, y))

    def test_relations_hold(self):
        for group in self.groups():
            made = group.presentation
            for i in range(group.n):
                self.assertEqual(group.power(group.generator(i), group.primes[i]), made.powers[i])
                for j in range(i + 1, group.n):
                    self.assertEqual(group.conjugated(group.generator(j), group.generator(i)), made.conjugate_row(i, j))

    def test_orders(self):
        for group in self.groups():
            for x in group.all_elements():
                y = x
                order = 1
                while any(y):
                    y = group.multiply(y, x)
                    order += 1
                self.assertEqual(unchanged(group.order_of, x), order)

    def test_orders_of_large_groups(self):
        group = Group(cyclic(1024))
        self.assertEqual(group.order_of(group.generator(0)), 1024)
        self.assertEqual(group.order_of(group.generator(9)), 2)
        self.assertEqual(group.power(group.generator(0), 1023), (1,) * 10)
        self.assertEqual(group.inverse(group.generator(0)), (1,) * 10)
        self.assertEqual(Group(cyclic(31)).order_of((5,)), 31)

    def test_places(self):
        for group in self.groups():
            for x in group.all_elements():
                expected = min([at for at in range(group.n) if x[at]], default=group.n)
                self.assertEqual(group.place(x), expected)
            self.assertEqual(group.place(group.identity()), group.n)

    def test_products_of_many(self):
        group = Group(symmetric(4))
        rows = list(group.all_elements())
        for at in range(0, 24, 3):
            x, y, z = rows[at], rows[-at - 1], rows[(7 * at + 2) % 24]
            self.assertEqual(group.product_of([x]), x)
            self.assertEqual(group.product_of((x, y)), group.multiply(x, y))
            expected = group.multiply(group.multiply(x, y), z)
            self.assertEqual(unchanged(group.product_of, [x, y, z]), expected)
            self.assertEqual(unchanged(group.product_of, (x, y, z)), expected)

    def test_product_of_no_elements(self):
        for group in self.groups():
            self.assertEqual(group.product_of(()), group.identity())
            self.assertEqual(group.product_of([]), group.identity())


class Words(GroupCase):
    def test_values(self):
        for group in (Group(symmetric(4)), Group(dicyclic(3)), Group(heisenberg(3)), Group(TRIVIAL)):
            letters = [k for k in range(-group.n, group.n + 1) if k]
            for many in range(4):
                for word in itertools.product(letters, repeat=many):
                    expected = group.identity()
                    for k in word:
                        x = group.generator(abs(k) - 1)
                        expected = group.multiply(expected, x if k > 0 else group.inverse(x))
                    self.assertEqual(unchanged(group.value, word), expected)

    def test_empty_word(self):
        for group in self.groups():
            self.assertEqual(group.value(()), group.identity())

    def test_inverses_of_words(self):
        group = Group(direct(symmetric(3), cyclic(4)))
        word = (1, -2, 3, 4, -1, -3, 2)
        back = tuple(-k for k in reversed(word))
        self.assertEqual(group.value(word + back), group.identity())
        self.assertEqual(group.value(back), group.inverse(group.value(word)))

    def test_long_words(self):
        group = Group(triangle())
        self.assertEqual(group.value((2,) * 3001), (0, 1))
        self.assertEqual(group.value((-2,) * 3001), (0, 2))

    def test_malformed_for_every_other_value(self):
        for group in (Group(triangle()), Group(TRIVIAL), Group(cyclic(2))):
            for value in odd_values():
                well = (isinstance(value, tuple)
                        and all(is_plain_integer(k) and k != 0 and abs(k) <= group.n for k in value))
                if well:
                    self.assertTrue(group.is_element(group.value(value)))
                else:
                    raised(Malformed, group.value, value)

    def test_wrong_letters_and_lists(self):
        group = Group(triangle())
        for k in (0, 3, -3, 10 ** 20, -10 ** 20, True, False, None, "1", (1,)):
            raised(Malformed, group.value, (k,))
            raised(Malformed, group.value, (1, -2, k, 1))
        raised(Malformed, group.value, [1, 2])
        raised(Malformed, group.value, [])
        raised(Malformed, group.value, "")


if __name__ == "__main__":
    unittest.main()
