import itertools
import random
import unittest

from helpers import odd_values, raised, unchanged
from plain import Plain, larger_groups, plain_of, small_groups, tiny_groups
from polychains.build import (abelian, alternating, cyclic, dicyclic, dihedral, direct, heisenberg, metacyclic, symmetric,
                              wreath)
from polychains.errors import Malformed, Refused
from polychains.group import Group
from polychains.maps import Hom, automorphisms, find_isomorphism, homs, satisfies
from polychains.quotient import Quotient
from polychains.subgroup import Subgroup, trivial, whole


def power_product(plain, images, row):
    return plain.times(*[plain.power(y, e) for y, e in zip(images, row)])


def whole_map(a, b, images):
    """The images of all elements, whether the images tell a homomorphism or not."""
    return {x: power_product(b, images, x) for x in a.rows}


def is_homomorphism(a, b, images):
    """Whether all products are kept."""
    table = whole_map(a, b, images)
    return all(table[z] == b.products[table[x], table[y]] for (x, y), z in a.products.items())


def every_tuple(a, b):
    return itertools.product(b.rows, repeat=a.group.n)


def pairs(most):
    """Pairs of small groups with at most so many tuples of images."""
    found = [*tiny_groups(), *small_groups()]
    for a in found:
        for b in found:
            if len(b.rows) ** a.group.n <= most:
                yield a, b


PAIRS = [(symmetric(3), symmetric(3)), (symmetric(3), cyclic(2)), (dihedral(4), dicyclic(2)), (cyclic(4), dicyclic(3)),
         (abelian((3, 2)), dihedral(6)), (alternating(4), alternating(4)), (cyclic(1), symmetric(4)), (symmetric(4), cyclic(1)),
         (metacyclic(5, 4, 2), cyclic(4)), (abelian((2, 2)), symmetric(4)), (cyclic(8), metacyclic(5, 4, 2))]


class Satisfying(unittest.TestCase):
    def test_all_tuples_of_images(self):
        for a, b in pairs(70):
            for images in every_tuple(a, b):
                self.assertIs(satisfies(a.group, b.group, images), is_homomorphism(a, b, images))

    def test_some_larger_pairs(self):
        chooser = random.Random(51)
        for one, two in PAIRS:
            a, b = plain_of(one), plain_of(two)
            for images in itertools.islice(every_tuple(a, b), 0, 200):
                self.assertIs(satisfies(a.group, b.group, images), is_homomorphism(a, b, images))
            for _ in range(60):
                images = tuple(chooser.choice(b.rows) for _ in range(a.group.n))
                self.assertIs(unchanged(satisfies, a.group, b.group, images), is_homomorphism(a, b, images))

    def test_every_value(self):
        for one, two in PAIRS:
            a, b = plain_of(one), plain_of(two)
            one_image = (b.one,) * a.group.n
            self.assertIs(satisfies(a.group, b.group, one_image), True)
            for value in (*odd_values(), [*one_image], one_image + (b.one,), ([*b.one],) * a.group.n, b.one, b.group,
                          (b.one + (0,),) * a.group.n, (None,) * a.group.n, (0,) * a.group.n):
                right = (isinstance(value, tuple) and len(value) == a.group.n
                         and all(b.group.is_element(y) for y in value) and is_homomorphism(a, b, value))
                self.assertIs(satisfies(a.group, b.group, value), right)


class Making(unittest.TestCase):
    def test_refused_exactly_without_the_relations(self):
        for a, b in pairs(70):
            for images in every_tuple(a, b):
                if is_homomorphism(a, b, images):
                    self.assertEqual(Hom(a.group, b.group, images).images, images)
                else:
                    self.assertEqual(raised(Refused, Hom, a.group, b.group, images).reason, "relations")

    def test_malformed_for_every_other_value(self):
        for one, two in PAIRS:
            a, b = plain_of(one), plain_of(two)
            good = (b.one,) * a.group.n
            last = (b.rows[-1],) * a.group.n
            for value in (*odd_values(), [*good], good + (b.one,), last[1:] + (None,), last + last[:1], [*last], b.group,
                          ([*b.one],) * a.group.n, (b.one + (0,),) * a.group.n, (True,) * a.group.n, whole(b.group)):
                form = (isinstance(value, tuple) and len(value) == a.group.n
                        and all(b.group.is_element(y) for y in value))
                if form:
                    kind = None if is_homomorphism(a, b, value) else Refused
                else:
                    kind = Malformed
                if kind is None:
                    self.assertEqual(unchanged(Hom, a.group, b.group, value).images, value)
                else:
                    raised(kind, Hom, a.group, b.group, value)

    def test_fields(self):
        a, b = Group(symmetric(3)), Group(cyclic(2))
        found = Hom(a=a, b=b, images=((1,), (0,)))
        self.assertEqual((found.source, found.target, found.images), (a, b, ((1,), (0,))))

    def test_equality(self):
        found = []
        for one, two in ((cyclic(2), cyclic(4)), (abelian((2,)), abelian((2, 2))), (cyclic(4), cyclic(4)), (abelian((2, 2)), cyclic(4)),
                         (cyclic(1), cyclic(4)), (cyclic(1), cyclic(2)), (abelian((2, 2)), abelian((2, 2)))):
            for images in homs(Group(one), Group(two)):
                found.append((one, two, images))
        for at, args in enumerate(found):
            one = Hom(Group(args[0]), Group(args[1]), args[2])
            for other, more in enumerate(found):
                two = Hom(Group(more[0]), Group(more[1]), more[2])
                self.assertIs(one == two, at == other)
                self.assertIs(one != two, at != other)

    def test_equality_for_every_value(self):
        group = Group(symmetric(3))
        for images in (((0, 0), (0, 0)), ((1, 0), (0, 1))):
            one = Hom(group, group, images)
            for value in (*odd_values(), images, group, one.kernel(), homs(group, group)):
                same = isinstance(value, Hom) and value.images == images and value.source == value.target == group
                self.assertIs(one == value, same)
                self.assertIs(one != value, not same)


class Using(unittest.TestCase):
    def every_hom(self, most):
        for a, b in pairs(most):
            for images in homs(a.group, b.group):
                yield a, b, Hom(a.group, b.group, images)

    def test_values(self):
        for a, b, hom in self.every_hom(100):
            table = whole_map(a, b, hom.images)
            for x in a.rows:
                self.assertEqual(hom.value(x), table[x])

    def test_kernels_and_images(self):
        for a, b, hom in self.every_hom(100):
            table = whole_map(a, b, hom.images)
            kernel, image = unchanged(hom.kernel), hom.image()
            self.assertEqual(kernel.group, a.group)
            self.assertEqual(image.group, b.group)
            self.assertEqual(set(kernel.all_members()), {x for x in a.rows if table[x] == b.one})
            self.assertEqual(set(image.all_members()), set(table.values()))
            self.assertEqual(kernel.order * image.order, len(a.rows))
            self.assertIs(hom.is_one_to_one(), len(set(table.values())) == len(a.rows))
            self.assertIs(hom.is_onto(), set(table.values()) == b.all)

    def test_larger_kernels(self):
        for plain in larger_groups()[:9]:
            group = plain.group
            same = Hom(group, group, tuple(group.generator(i) for i in range(group.n)))
            self.assertEqual((same.kernel(), same.image()), (trivial(group), whole(group)))
            for members in plain.subgroups():
                if plain.is_normal(members):
                    quotient = Quotient(group, Subgroup(group, plain.canonical(members)))
                    hom = Hom(group, quotient.group, tuple(quotient.image(group.generator(i)) for i in range(group.n)))
                    self.assertEqual(hom.kernel(), quotient.kernel)
                    self.assertEqual(hom.image(), whole(quotient.group))
                    self.assertIs(hom.is_onto(), True)
                    self.assertIs(hom.is_one_to_one(), len(members) == 1)

    def test_then(self):
        groups = [Group(made) for made in (cyclic(4), symmetric(3), dihedral(4), abelian((3, 2)), cyclic(1))]
        for a, b, c in itertools.product(groups, repeat=3):
            for one in homs(a, b)[:6]:
                for two in homs(b, c)[-6:]:
                    first, second = Hom(a, b, one), Hom(b, c, two)
                    found = unchanged(first.then, second)
                    self.assertIsInstance(found, Hom)
                    self.assertEqual((found.source, found.target), (a, c))
                    for x in a.all_elements():
                        self.assertEqual(found.value(x), second.value(first.value(x)))

    def test_then_is_malformed_if_the_groups_do_not_fit(self):
        groups = [Group(made) for made in (cyclic(4), abelian((2, 2)), symmetric(3), cyclic(1))]
        for a, b, c, d in itertools.product(groups, repeat=4):
            first = Hom(a, b, (b.identity(),) * a.n)
            second = Hom(c, d, (d.identity(),) * c.n)
            if b == c:
                self.assertEqual(first.then(second).target, d)
            else:
                raised(Malformed, first.then, second)


class Finding(unittest.TestCase):
    def test_homs_of_all_small_pairs(self):
        for a, b in pairs(260):
            expected = tuple(images for images in every_tuple(a, b) if satisfies(a.group, b.group, images))
            self.assertEqual(unchanged(homs, a.group, b.group), expected)

    def test_homs_of_larger_pairs(self):
        chooser = random.Random(52)
        makes = [symmetric(3), dihedral(4), dicyclic(2), alternating(4), abelian((4, 2)), dicyclic(3), dihedral(6), abelian((3, 4)),
                 metacyclic(5, 4, 2), wreath(cyclic(3), 2), abelian((2, 2, 2))]
        for one in makes:
            for two in makes:
                a, b = plain_of(one), plain_of(two)
                if len(b.rows) ** a.group.n <= 2000:
                    a = Plain(a.other_generators(chooser))
                    expected = tuple(images for images in every_tuple(a, b) if satisfies(a.group, b.group, images))
                    self.assertEqual(homs(a.group, b.group), expected)

    def test_homs_of_symmetric_groups(self):
        group = Group(symmetric(4))
        expected = tuple(images for images in itertools.product(group.all_elements(), repeat=4)
                         if group.power(images[0], 2) == group.identity() and group.power(images[1], 3) == group.identity()
                         and satisfies(group, group, images))
        self.assertEqual(homs(group, group), expected)

    def test_numbers_of_homs(self):
        for one, two, many in ((cyclic(200), cyclic(200), 200), (cyclic(12), cyclic(18), 6), (abelian((2,) * 4), abelian((2,) * 3), 4096),
                               (abelian((3, 3)), abelian((9, 3)), 81), (dicyclic(32), dicyclic(32), 2052),
                               (abelian((2,) * 6), dicyclic(32), 64), (direct(dicyclic(2), abelian((2,) * 2)), cyclic(2), 16)):
            found = homs(Group(one), Group(two))
            self.assertEqual(len(found), many)
            self.assertEqual(len(set(found)), many)
            self.assertEqual(list(found), sorted(found))

    def test_automorphisms(self):
        chooser = random.Random(53)
        for plain in [*tiny_groups(), *small_groups()]:
            group = plain.group
            if len(plain.rows) ** group.n <= 2000:
                expected = tuple(images for images in every_tuple(plain, plain)
                                 if len(set(whole_map(plain, plain, images).values())) == len(plain.rows)
                                 and is_homomorphism(plain, plain, images))
                self.assertEqual(unchanged(automorphisms, group), expected)
            else:
                expected = tuple(images for images in homs(group, group) if Hom(group, group, images).is_onto())
                self.assertEqual(automorphisms(group), expected)
            other = plain.other_generators(chooser)
            self.assertEqual(len(automorphisms(other)), len(expected))

    def test_numbers_of_automorphisms(self):
        for made, many in ((cyclic(1), 1), (cyclic(200), 80), (symmetric(4), 24), (alternating(4), 24), (dicyclic(2), 24),
                           (abelian((2, 2, 2)), 168), (abelian((5, 5)), 480), (dihedral(100), 4000), (dicyclic(32), 2048),
                           (heisenberg(3), 432), (direct(dihedral(4), dihedral(8)), 4096), (metacyclic(31, 6, 6), 930),
                           (abelian((4, 2)), 8), (direct(symmetric(3), symmetric(3)), 72)):
            group = Group(made)
            found = automorphisms(group)
            self.assertEqual(len(found), many)
            self.assertEqual(list(found), sorted(set(found)))
            for images in found[::97]:
                self.assertIs(Hom(group, group, images).is_one_to_one(), True)

    def test_refused_large(self):
        small, most, large = Group(cyclic(2)), Group(cyclic(200)), Group(cyclic(203))
        for a, b in ((large, small), (small, large), (large, large), (Group(cyclic(1024)), Group(cyclic(1)))):
            self.assertEqual(raised(Refused, homs, a, b).reason, "large")
            self.assertEqual(raised(Refused, find_isomorphism, a, b).reason, "large")
        self.assertEqual(raised(Refused, automorphisms, large).reason, "large")
        self.assertEqual(raised(Refused, automorphisms, Group(dihedral(125))).reason, "large")
        self.assertEqual(len(homs(small, most)), 2)
        self.assertIsNone(find_isomorphism(small, most))
        self.assertEqual(raised(Refused, homs, Group(abelian((2,) * 8)), Group(abelian((2,) * 8))).reason, "large")

    def test_refused_many(self):
        for one, two in ((abelian((2,) * 4), abelian((2,) * 4)), (abelian((2,) * 7), abelian((2,) * 7)), (abelian((5, 5, 5)), abelian((5, 5))),
                         (direct(dicyclic(2), abelian((2,) * 4)), abelian((4, 4, 4))), (abelian((2,) * 7), symmetric(4)),
                         (abelian((13, 13)), abelian((13, 13)))):
            self.assertEqual(raised(Refused, homs, Group(one), Group(two)).reason, "many")
        for made in (abelian((2,) * 4), abelian((2,) * 7), abelian((5, 5, 5)), abelian((3, 3, 3)), direct(dicyclic(2), abelian((2,) * 3))):
            self.assertEqual(raised(Refused, automorphisms, Group(made)).reason, "many")

    def test_up_to_5000_are_told(self):
        one, two = Group(abelian((5, 5, 2, 2, 2))), Group(abelian((2, 5, 5)))
        self.assertEqual(len(homs(one, two)), 5000)
        one, two = Group(abelian((2, 2, 2, 3, 3))), Group(abelian((3, 3, 2, 2)))
        self.assertEqual(raised(Refused, homs, one, two).reason, "many")

    def test_many_automorphisms_are_counted_by_themselves(self):
        group = Group(wreath(dihedral(4), 2))
        self.assertEqual(raised(Refused, homs, group, group).reason, "many")
        self.assertEqual(len(automorphisms(group)), 512)

    def assert_isomorphism(self, a, b, images):
        hom = Hom(a, b, images)
        self.assertIs(hom.is_one_to_one(), True)
        self.assertIs(hom.is_onto(), True)

    def test_isomorphisms_with_other_generators(self):
        chooser = random.Random(54)
        for plain in [*tiny_groups(), *small_groups(), *larger_groups()]:
            for _ in range(2):
                other = plain.other_generators(chooser)
                self.assert_isomorphism(plain.group, other, unchanged(find_isomorphism, plain.group, other))
            self.assert_isomorphism(plain.group, plain.group, find_isomorphism(plain.group, plain.group))

    def kinds(self, plain):
        """Numbers that are the same for isomorphic groups, and tell the groups of an order below 16 apart."""
        return sorted((plain.order_of(x), sum(plain.products[x, y] == plain.products[y, x] for y in plain.rows))
                      for x in plain.rows)

    def test_isomorphisms_of_all_small_pairs(self):
        found = [plain for plain in (*tiny_groups(), *small_groups()) if len(plain.rows) < 16]
        for a in found:
            for b in found:
                images = find_isomorphism(a.group, b.group)
                if self.kinds(a) == self.kinds(b):
                    self.assert_isomorphism(a.group, b.group, images)
                else:
                    self.assertIsNone(images)

    def test_groups_that_differ_little(self):
        for one, two in ((abelian((4, 4)), direct(dicyclic(2), cyclic(2))), (heisenberg(3), abelian((3, 3, 3))),
                         (dihedral(8), dicyclic(4)), (abelian((4, 4)), abelian((8, 2))), (abelian((3, 3)), cyclic(9)),
                         (direct(dihedral(4), dihedral(4)), direct(dihedral(4), dicyclic(2))), (dihedral(100), dicyclic(50)),
                         (direct(dicyclic(2), dicyclic(2)), direct(dihedral(4), dihedral(4))), (symmetric(3), cyclic(6))):
            self.assertIsNone(find_isomorphism(Group(one), Group(two)))
            self.assertIsNone(find_isomorphism(Group(two), Group(one)))

    def test_larger_isomorphisms(self):
        for one, two in ((dihedral(6), direct(symmetric(3), cyclic(2))), (cyclic(180), abelian((4, 9, 5))),
                         (abelian((2, 4, 3)), abelian((3, 4, 2))), (direct(symmetric(4), dihedral(4)), direct(dihedral(4), symmetric(4))),
                         (abelian((2,) * 7), abelian((2,) * 7)), (heisenberg(2), dihedral(4)),
                         (direct(dihedral(4), dihedral(8)), direct(dihedral(8), dihedral(4))), (wreath(cyclic(2), 2), dihedral(4))):
            a, b = Group(one), Group(two)
            self.assert_isomorphism(a, b, find_isomorphism(a, b))

    def test_order_1(self):
        self.assertEqual(find_isomorphism(Group(cyclic(1)), Group(cyclic(1))), ())
        self.assertIsNone(find_isomorphism(Group(cyclic(1)), Group(cyclic(2))))
        self.assertEqual(homs(Group(cyclic(1)), Group(symmetric(4))), ((),))
        self.assertEqual(homs(Group(symmetric(3)), Group(cyclic(1))), (((), ()),))
        self.assertEqual(automorphisms(Group(cyclic(1))), ((),))


if __name__ == "__main__":
    unittest.main()
