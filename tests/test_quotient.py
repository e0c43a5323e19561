import random
import unittest

from helpers import odd_values, raised, unchanged
from plain import larger_groups, plain_of, small_groups, tiny_groups
from polychains.build import abelian, cyclic, dihedral, direct, symmetric
from polychains.errors import Malformed, Refused
from polychains.group import Group
from polychains.quotient import Quotient
from polychains.subgroup import Subgroup, trivial, whole


def normal_subgroups(plain):
    for members in plain.subgroups():
        if plain.is_normal(members):
            yield members, Subgroup(plain.group, plain.canonical(members))


def subgroups(plain):
    for members in plain.subgroups():
        yield members, Subgroup(plain.group, plain.canonical(members))


class Making(unittest.TestCase):
    def test_refused_exactly_if_not_normal(self):
        for plain in (*tiny_groups(), *small_groups(), *larger_groups()):
            for members, u in subgroups(plain):
                if plain.is_normal(members):
                    self.assertEqual(unchanged(Quotient, plain.group, u).kernel, u)
                else:
                    self.assertEqual(raised(Refused, Quotient, plain.group, u).reason, "normal")

    def test_malformed_for_every_other_value(self):
        for plain in small_groups():
            group = plain.group
            for value in (*odd_values(), group, group.presentation, (), plain.rows, trivial(group).rows,
                          whole(Group(cyclic(9))), trivial(Group(cyclic(9))), Quotient(group, whole(group))):
                if isinstance(value, Subgroup) and value.group == group:
                    self.assertEqual(Quotient(group, value).kernel, value)
                else:
                    raised(Malformed, Quotient, group, value)

    def test_malformed_before_refused(self):
        other = Group(direct(symmetric(3), cyclic(2)))
        u = Subgroup(other, ((1, 0, 0),))
        self.assertEqual(raised(Refused, Quotient, other, u).reason, "normal")
        raised(Malformed, Quotient, Group(symmetric(3)), u)
        raised(Malformed, Quotient, Group(symmetric(3)), Subgroup(Group(dihedral(9)), ((1, 0, 0),)))
        raised(Malformed, Quotient, Group(abelian((2, 2))), trivial(Group(cyclic(4))))

    def test_a_subgroup_of_an_equal_group(self):
        group = Group(symmetric(4))
        self.assertEqual(Quotient(group, whole(Group(symmetric(4)))).group.order, 1)

    def test_fields(self):
        for plain in (*tiny_groups(), *small_groups(), *larger_groups()):
            group = plain.group
            for members, u in normal_subgroups(plain):
                quotient = Quotient(group, u)
                self.assertEqual(quotient.source, group)
                self.assertEqual(quotient.kernel, u)
                self.assertIsInstance(quotient.group, Group)
                primes = tuple(p for at, p in enumerate(group.primes) if at not in u.places)
                self.assertEqual(quotient.group.primes, primes)
                self.assertEqual(quotient.group.order * len(members), group.order)

    def test_ends(self):
        for plain in (*tiny_groups(), *small_groups()):
            self.assertEqual(Quotient(plain.group, trivial(plain.group)).group, plain.group)
            self.assertEqual(Quotient(plain.group, whole(plain.group)).group, Group(cyclic(1)))
        self.assertEqual(Quotient(group=Group(cyclic(4)), normal=trivial(Group(cyclic(4)))).group.order, 4)


class Images(unittest.TestCase):
    def every_quotient(self, plains):
        for plain in plains:
            for members, u in normal_subgroups(plain):
                yield plain, members, Quotient(plain.group, u)

    def test_images_have_the_items_of_the_representative(self):
        for plain, members, quotient in self.every_quotient([*tiny_groups(), *small_groups()]):
            places = quotient.kernel.places
            for x in plain.rows:
                coset = plain.left_coset(x, members)
                chosen = [y for y in coset if not any(y[at] for at in places)]
                self.assertEqual(len(chosen), 1)
                row = tuple(item for at, item in enumerate(chosen[0]) if at not in places)
                self.assertEqual(unchanged(quotient.image, x), row)
                self.assertEqual(unchanged(quotient.lift, row), chosen[0])

    def test_images_keep_products(self):
        for plain, members, quotient in self.every_quotient([*tiny_groups(), *small_groups()]):
            images = {x: quotient.image(x) for x in plain.rows}
            for x in plain.rows:
                for y in plain.rows:
                    product = quotient.group.multiply(images[x], images[y])
                    self.assertEqual(images[plain.products[x, y]], product)

    def test_images_are_equal_exactly_within_a_coset(self):
        for plain, members, quotient in self.every_quotient([*tiny_groups(), *small_groups()]):
            images = {x: quotient.image(x) for x in plain.rows}
            for x in plain.rows:
                coset = plain.left_coset(x, members)
                for y in plain.rows:
                    self.assertIs(images[x] == images[y], y in coset)

    def test_images_in_larger_groups(self):
        chooser = random.Random(21)
        for plain, members, quotient in self.every_quotient(larger_groups()):
            images = {x: quotient.image(x) for x in plain.rows}
            self.assertEqual(sorted(set(images.values())), list(quotient.group.all_elements()))
            self.assertEqual({x for x in plain.rows if images[x] == quotient.group.identity()}, members)
            for x in chooser.sample(plain.rows, 8):
                for y in plain.rows:
                    product = quotient.group.multiply(images[x], images[y])
                    self.assertEqual(images[plain.products[x, y]], product)

    def test_lifts(self):
        for plain, members, quotient in self.every_quotient([*tiny_groups(), *small_groups(), *larger_groups()]):
            for y in quotient.group.all_elements():
                x = unchanged(quotient.lift, y)
                self.assertTrue(plain.group.is_element(x))
                self.assertEqual(quotient.image(x), y)
                self.assertFalse(any(x[at] for at in quotient.kernel.places))

    def test_images_of_subgroups(self):
        for plain, members, quotient in self.every_quotient(small_groups()):
            for inside, u in subgroups(plain):
                found = unchanged(quotient.image_of, u)
                self.assertEqual(found.group, quotient.group)
                self.assertEqual(set(found.all_members()), {quotient.image(x) for x in inside})

    def test_lifted_subgroups(self):
        for plain, members, quotient in self.every_quotient(small_groups()):
            for inside, u in subgroups(plain_of(quotient.group.presentation)):
                found = unchanged(quotient.lifted, u)
                self.assertEqual(found.group, plain.group)
                self.assertEqual(set(found.all_members()), {x for x in plain.rows if quotient.image(x) in inside})

    def test_some_larger_images_and_lifted_subgroups(self):
        chooser = random.Random(22)
        for plain, members, quotient in self.every_quotient(larger_groups()):
            inside, u = chooser.choice(list(subgroups(plain)))
            found = quotient.image_of(u)
            self.assertEqual(set(found.all_members()), {quotient.image(x) for x in inside})
            self.assertEqual(set(quotient.lifted(found).all_members()),
                             {plain.products[x, y] for x in inside for y in members})


if __name__ == "__main__":
    unittest.main()
