import itertools
import random
import unittest

from helpers import every_row, is_plain_integer, odd_values, raised, unchanged
from plain import Plain, plain_of, small_groups, tiny_groups
from polychains.build import (abelian, alternating, cyclic, dicyclic, dihedral, direct, heisenberg, metacyclic,
                              symmetric, wreath)
from polychains.collect import is_consistent
from polychains.errors import Malformed, Refused
from polychains.extension import (Module, class_count, class_tails, coboundaries, cocycles, extension, is_split,
                                  trivial_module)
from polychains.group import Group
from polychains.linear import identity, span
from polychains.pres import Presentation

MADE = []
COCYCLES = {}


def plain_moved(v, matrix, p):
    return tuple(sum(v[k] * matrix[k][at] for k in range(len(v))) % p for at in range(len(v)))


def plain_times(one, two, p):
    return tuple(plain_moved(row, two, p) for row in one)


def added(v, w, p):
    return tuple((x + y) % p for x, y in zip(v, w))


def less(v, w, p):
    return tuple((x - y) % p for x, y in zip(v, w))


def matrix_of(group, p, d, matrices, x):
    """The product of the matrices of the letters of the normal word of an element."""
    result = identity(d)
    for i, exponent in enumerate(x):
        for _ in range(exponent):
            result = plain_times(result, matrices[i], p)
    return result


def acts(plain, p, d, matrices):
    """Whether the matrices of all products are the products of the matrices, and all have an inverse."""
    of = {x: matrix_of(plain.group, p, d, matrices, x) for x in plain.rows}
    if any(len(set(plain_moved(v, matrix, p) for v in every_row(d, p))) < p ** d for matrix in matrices):
        return False
    return all(plain_times(of[x], of[y], p) == of[z] for (x, y), z in plain.products.items())


def every_matrix(p, d):
    return list(itertools.product(every_row(d, p), repeat=d))


def modules_of(plain, p, d, chooser, most):
    """Some modules of a group, found by trying matrices that have the orders of the generators."""
    group = plain.group
    choices = []
    for i in range(group.n):
        order = group.order_of(group.generator(i))
        fitting = [matrix for matrix in every_matrix(p, d)
                   if matrix_of(group, p, d, [matrix] * group.n, (order,) + (0,) * (group.n - 1)) == identity(d)]
        choices.append(fitting)
    found = [trivial_module(group, p, d)]
    for _ in range(200):
        matrices = [chooser.choice(fitting) for fitting in choices]
        if len(found) < most and acts(plain, p, d, matrices) and tuple(matrices) not in [m.matrices for m in found]:
            found.append(Module(group, p, d, matrices))
    return found


def told_presentation(module, tails):
    """The presentation that point 9.2 tells."""
    made = module.group.presentation
    n, d, p = made.n, module.d, module.p
    parts = iter([tuple(tails[at:at + d]) for at in range(0, len(tails), d)])
    units = [tuple(1 if at == n + k else 0 for at in range(n + d)) for k in range(d)]
    powers = []
    conjugates = []
    for i in range(n):
        powers.append(made.powers[i] + next(parts))
        rows = [made.conjugates[i][j - i - 1] + next(parts) for j in range(i + 1, n)]
        for k in range(d):
            rows.append((0,) * n + plain_moved(units[k][n:], module.matrices[i], p))
        conjugates.append(tuple(rows))
    for k in range(d):
        powers.append((0,) * (n + d))
        conjugates.append(tuple(units[k + 1:]))
    return Presentation(made.primes + (p,) * d, tuple(powers), tuple(conjugates))


def width_of(module):
    return module.d * module.group.n * (module.group.n + 1) // 2


def lifts_of(module):
    """All rows of elements of an extension that have the generators of the group as their images."""
    group = module.group
    for rows in itertools.product(every_row(module.d, module.p), repeat=group.n):
        yield [group.generator(i) + row for i, row in enumerate(rows)]


def tails_of(module, large, members):
    """The tails with which the members, elements of an extension, fulfil the relations of the generators."""
    made = module.group.presentation
    n = made.n

    def word(row):
        return large.product_of([x for x, exponent in zip(members, row) for _ in range(exponent)])

    found = []
    for i in range(n):
        sides = [(large.product_of([members[i]] * made.primes[i]), word(made.powers[i]))]
        for j in range(i + 1, n):
            right = large.multiply(members[i], word(made.conjugates[i][j - i - 1]))
            sides.append((large.multiply(members[j], members[i]), right))
        for left, right in sides:
            x = large.multiply(large.inverse(right), left)
            assert not any(x[:n])
            found.extend(x[n:])
    return tuple(found)


def some_modules():
    """Modules of small groups, with few rows of tails."""
    if not MADE:
        chooser = random.Random(9)
        for plain in [*list(tiny_groups())[::3], *small_groups()]:
            n = plain.group.n
            for p, d in ((2, 1), (3, 1), (5, 1), (7, 1), (2, 2), (3, 2), (2, 3)):
                if len(plain.rows) * p ** d <= 200 and p ** (d * n * (n + 1) // 2) <= 730:
                    MADE.extend(modules_of(plain, p, d, chooser, 3))
    return MADE


def every_cocycle(module):
    """All rows of tails whose presentation is consistent, ascending."""
    key = (str(module.group.presentation), module.p, module.matrices, module.d)
    if key not in COCYCLES:
        COCYCLES[key] = [tails for tails in every_row(width_of(module), module.p)
                         if is_consistent(told_presentation(module, tails))]
    return COCYCLES[key]


class Modules(unittest.TestCase):
    def test_exactly_if_products_are_products(self):
        chooser = random.Random(5)
        for plain in [*list(tiny_groups())[::2], *small_groups()]:
            for p, d in ((2, 1), (3, 1), (5, 1), (7, 1), (2, 2), (3, 2)):
                if len(plain.rows) * p ** d > 300:
                    continue
                tuples = list(itertools.product(every_matrix(p, d), repeat=plain.group.n)) if (
                    p ** (d * d * plain.group.n) < 300) else []
                tuples += [tuple(chooser.choice(every_matrix(p, d)) for _ in range(plain.group.n)) for _ in range(10)]
                tuples += [module.matrices for module in modules_of(plain, p, d, chooser, 4)]
                for matrices in tuples:
                    if acts(plain, p, d, matrices):
                        made = unchanged(Module, plain.group, p, d, chooser.choice([list, tuple])(matrices))
                        self.assertEqual((made.group, made.p, made.d), (plain.group, p, d))
                        self.assertEqual((made.matrices, made.matrices.__class__), (tuple(matrices), tuple))
                    else:
                        self.assertEqual(raised(Refused, Module, plain.group, p, d, matrices).reason, "module")

    def test_some_modules_are_not_trivial(self):
        found = list(some_modules())
        self.assertGreater(len([m for m in found if any(one != identity(m.d) for one in m.matrices)]), 40)
        self.assertGreater(len([m for m in found if m.d > 1 and any(one != identity(m.d) for one in m.matrices)]), 10)

    def test_acted(self):
        for module in some_modules():
            group = module.group
            for x in group.all_elements():
                matrix = matrix_of(group, module.p, module.d, module.matrices, x)
                for v in every_row(module.d, module.p):
                    self.assertEqual(module.acted(v, x), plain_moved(v, matrix, module.p))
                    for y in [group.generator(i) for i in range(group.n)]:
                        self.assertEqual(module.acted(module.acted(v, x), y), module.acted(v, group.multiply(x, y)))

    def test_malformed_numbers(self):
        for group in (Group(cyclic(1)), Group(cyclic(2)), Group(symmetric(3))):
            units = [((1,),)] * group.n
            for value in (*odd_values(), 4, 6, 9, 29, 32, 41, 1009):
                if not (is_plain_integer(value) and value in (2, 3, 5, 7, 11, 13, 17, 19, 23, 29, 31)):
                    raised(Malformed, Module, group, value, 1, units)
                    raised(Malformed, trivial_module, group, value, 1)
                    raised(Malformed, trivial_module, group, value, 10 ** 40)
                if not (is_plain_integer(value) and value > 0):
                    raised(Malformed, Module, group, 3, value, units)
                    raised(Malformed, trivial_module, group, 3, value)
                    raised(Malformed, trivial_module, group, value, value)

    def test_malformed_matrices(self):
        for group in (Group(cyclic(1)), Group(cyclic(2)), Group(symmetric(3))):
            n = group.n
            for p, d in ((2, 1), (3, 2), (31, 10 ** 40)):
                for value in odd_values():
                    if isinstance(value, (list, tuple)) and len(value) == n == 0:
                        continue
                    if value == [None] * n or not isinstance(value, (list, tuple)) or len(value) != n or d > 1:
                        raised(Malformed, Module, group, p, d, value)

    def test_malformed_parts_of_matrices(self):
        group = Group(symmetric(3))
        good = ((2, 0), (0, 1))
        for bad in ([[1, 0], [0, 1]], [(1, 0), (0, 1)], ([1, 0], (0, 1)), ((1, 0), [0, 1]), ((True, 0), (0, 1)),
                    ((1, 0), (False, 1)), ((3, 0), (0, 1)), ((1, 0), (0, -1)), ((1, 0),), ((1, 0), (0, 1), (0, 0)),
                    ((1, 0, 0), (0, 1, 0)), ((1,), (0,)), (), ((), ()), None, 1, "10", (("1", 0), (0, 1)), ((1, None), (0, 1)),
                    ((1,),), ((1, 0, 0), (0, 1, 0), (0, 0, 1)), group, *odd_values()):
            if bad == ((0, 0), (0, 0)):
                continue
            raised(Malformed, Module, group, 3, 2, (good, bad))
            raised(Malformed, Module, group, 3, 2, [bad, good])
        for many in (0, 1, 3, 4):
            raised(Malformed, Module, group, 3, 2, (good,) * many)
            raised(Malformed, Module, group, 3, 2, [good] * many)
        raised(Malformed, Module, Group(cyclic(1)), 3, 2, (good,))
        # The items are compared with p.
        raised(Malformed, Module, Group(cyclic(2)), 2, 1, (((2,),),))
        self.assertEqual(Module(Group(cyclic(2)), 3, 1, (((2,),),)).acted((1,), (1,)), (2,))

    def test_order_of_the_errors(self):
        one = ((1,),)
        zero = ((0,),)
        large = Group(abelian((2,) * 9))
        raised(Malformed, Module, large, 4, 1, [zero] * 9)
        raised(Malformed, Module, large, 3, 0, [zero] * 9)
        raised(Malformed, Module, large, 3, 1, [zero] * 8)
        raised(Malformed, Module, large, 3, 1, [one] * 8 + [((3,),)])
        self.assertEqual(raised(Refused, Module, large, 3, 1, [zero] * 9).reason, "large")
        self.assertEqual(raised(Refused, Module, large, 3, 1, [one] * 9).reason, "large")
        self.assertEqual(raised(Refused, Module, large, 2, 1, [zero] * 9).reason, "module")
        self.assertEqual(Module(large, 2, 1, [one] * 9).matrices, (one,) * 9)

    def test_large(self):
        for made, p, d in ((cyclic(1), 2, 10), (cyclic(1), 31, 2), (abelian((2,) * 9), 2, 1), (cyclic(2), 2, 9),
                           (cyclic(33), 31, 1), (abelian((2,) * 5), 2, 5), (cyclic(37 - 6), 31, 1), (symmetric(4), 2, 5),
                           (cyclic(1), 3, 6), (cyclic(8), 5, 3)):
            module = trivial_module(Group(made), p, d)
            self.assertEqual(module.matrices, (identity(d),) * module.group.n)
        for made, p, d in ((cyclic(1), 2, 11), (cyclic(1), 3, 7), (cyclic(1), 31, 3), (abelian((2,) * 9), 3, 1),
                           (cyclic(3), 7, 3), (cyclic(1), 2, 10 ** 40), (cyclic(6), 31, 10 ** 40), (cyclic(34), 31, 1),
                           (cyclic(2), 23, 3), (symmetric(4), 2, 6), (abelian((2,) * 10), 2, 1), (cyclic(1), 5, 5)):
            self.assertEqual(raised(Refused, trivial_module, Group(made), p, d).reason, "large")
        for d in (11, 12, 10 ** 40):
            self.assertEqual(raised(Refused, Module, Group(cyclic(1)), 2, d, ()).reason, "large")
        self.assertEqual(raised(Refused, Module, Group(cyclic(3)), 7, 3, [identity(3)]).reason, "large")
        self.assertEqual(raised(Refused, Module, Group(cyclic(3)), 7, 3, [((0,) * 3,) * 3]).reason, "large")

    def test_trivial_module(self):
        for plain in small_groups():
            for p, d in ((2, 1), (5, 1), (3, 2)):
                made = unchanged(trivial_module, plain.group, p, d)
                self.assertEqual(made, Module(plain.group, p, d, [identity(d)] * plain.group.n))
                for x in plain.rows:
                    self.assertEqual(made.acted((1,) * d, x), (1,) * d)

    def test_equality(self):
        two, four = Group(cyclic(2)), Group(cyclic(4))
        made = Module(two, 3, 1, (((2,),),))
        self.assertIs(made == Module(Group(cyclic(2)), 3, 1, [((2,),)]), True)
        for other in (trivial_module(two, 3, 1), Module(Group(cyclic(2)), 5, 1, (((4,),),)), Module(four, 3, 1, [((2,),), ((1,),)]),
                      trivial_module(two, 3, 2), *odd_values(), two, two.presentation, ((2,),)):
            self.assertIs(made == other, False)
            self.assertIs(made != other, True)
        self.assertIs(trivial_module(four, 3, 1) == trivial_module(Group(abelian((2, 2))), 3, 1), False)
        self.assertIs(trivial_module(two, 5, 1) == trivial_module(two, 3, 1), False)
        self.assertIs(trivial_module(two, 3, 1) == trivial_module(two, 3, 2), False)
        # Without generators only the other fields tell modules apart.
        one = Group(cyclic(1))
        self.assertIs(Module(one, 2, 1, ()) == Module(one, 2, 1, []), True)
        self.assertIs(Module(one, 2, 1, ()) == Module(one, 2, 2, ()), False)
        self.assertIs(Module(one, 2, 1, ()) == Module(one, 3, 1, ()), False)


class Extensions(unittest.TestCase):
    def test_cocycles_are_the_consistent_tails(self):
        chooser = random.Random(10)
        for module in some_modules():
            width = width_of(module)
            every = every_row(width, module.p)
            consistent = every_cocycle(module)
            for tails in chooser.sample(every, min(20, len(every))) + consistent[:20]:
                if tails in consistent:
                    self.assertEqual(unchanged(extension, module, tails), told_presentation(module, tails))
                else:
                    self.assertEqual(raised(Refused, extension, module, tails).reason, "cocycle")
                    self.assertEqual(raised(Refused, is_split, module, tails).reason, "cocycle")
            space = unchanged(cocycles, module)
            self.assertEqual(module.p ** len(space), len(consistent))
            self.assertEqual(space, span(consistent, width, module.p))

    def test_coboundaries_and_classes(self):
        for module in some_modules():
            p, width = module.p, width_of(module)
            split = Group(told_presentation(module, (0,) * width))
            others = {tails_of(module, split, members) for members in lifts_of(module)}
            space = unchanged(coboundaries, module)
            self.assertEqual(p ** len(space), len(others))
            self.assertEqual(space, span(sorted(others), width, p))
            told = cocycles(module)
            self.assertEqual(span([*told, *space], width, p), told)
            self.assertEqual(unchanged(class_count, module), p ** (len(told) - len(space)))
            pivots = [row.index(1) for row in space]
            chosen = [tails for tails in every_cocycle(module) if not any(tails[at] for at in pivots)]
            self.assertEqual(unchanged(class_tails, module), tuple(chosen))
            self.assertEqual(len(chosen), class_count(module))
            # Each cocycle is in the class of exactly one of them.
            classes = [{added(tails, row, p) for row in others} for tails in chosen]
            self.assertEqual(len(set().union(*classes)), p ** len(told))
            self.assertEqual(sum(map(len, classes)), p ** len(told))

    def test_other_lifts_differ_by_coboundaries_in_each_extension(self):
        seen = 0
        for module in some_modules():
            if module.p ** (module.d * module.group.n) > 32:
                continue
            others = {tails_of(module, Group(told_presentation(module, (0,) * width_of(module))), members)
                      for members in lifts_of(module)}
            for tails in class_tails(module):
                large = Group(extension(module, tails))
                found = {tails_of(module, large, members) for members in lifts_of(module)}
                self.assertEqual({less(row, tails, module.p) for row in found}, others)
                # It is split exactly if some lifts have the tails 0.
                zero = (0,) * len(tails)
                self.assertIs(unchanged(is_split, module, tails), zero in found)
                self.assertIs(zero in found, zero == tails)
                for row in others:
                    self.assertIs(is_split(module, added(row, tails, module.p)), zero in found)
                    seen += 1
        self.assertGreater(seen, 1000)

    def test_conjugating_moves_rows_as_the_module_does(self):
        chooser = random.Random(6)
        for module in some_modules():
            n = module.group.n
            tails = chooser.choice(class_tails(module))
            large = Group(extension(module, tails))
            for x in large.all_elements():
                for v in [*identity(module.d), tuple(chooser.randrange(module.p) for _ in range(module.d))]:
                    self.assertEqual(large.conjugated((0,) * n + v, x), (0,) * n + module.acted(v, x[:n]))
            for x in module.group.all_elements():
                for y in [module.group.generator(i) for i in range(n)]:
                    product = large.multiply(x + (0,) * module.d, y + (0,) * module.d)
                    self.assertEqual(product[:n], module.group.multiply(x, y))

    def test_known_numbers_of_classes(self):
        for made, p, d, many in ((cyclic(2), 2, 1, 2), (cyclic(4), 2, 1, 2), (cyclic(3), 2, 1, 1), (abelian((2, 2)), 2, 1, 8),
                                 (abelian((2, 2, 2)), 2, 1, 64), (symmetric(3), 2, 1, 2), (dihedral(4), 2, 1, 8),
                                 (dicyclic(2), 2, 1, 4), (alternating(4), 2, 1, 2), (symmetric(4), 2, 1, 4), (cyclic(9), 3, 1, 3),
                                 (abelian((3, 3)), 3, 1, 27), (abelian((3, 3)), 2, 3, 1), (abelian((2,) * 4), 2, 1, 2 ** 10),
                                 (cyclic(1), 2, 10, 1), (cyclic(1), 31, 1, 1), (heisenberg(3), 3, 1, 81), (cyclic(31), 31, 1, 31)):
            self.assertEqual(class_count(trivial_module(Group(made), p, d)), many, (made.primes, p, d))

    def test_many_classes(self):
        for made, p, d, many in ((abelian((2, 2)), 2, 3, 512), (abelian((3, 3)), 3, 2, 729), (cyclic(5), 5, 3, 125),
                                 (abelian((5, 5)), 5, 1, 125)):
            module = trivial_module(Group(made), p, d)
            found = class_tails(module)
            self.assertEqual((class_count(module), len(found), len(set(found))), (many, many, many))
            self.assertEqual(list(found), sorted(found))
        for made, p, d in ((abelian((2,) * 4), 2, 1), (abelian((2, 2, 2)), 2, 2), (abelian((2, 2)), 2, 4),
                           (abelian((2,) * 9), 2, 1), (abelian((3,) * 3), 3, 3), (abelian((2,) * 5), 2, 5)):
            module = trivial_module(Group(made), p, d)
            self.assertGreater(class_count(module), 1000)
            self.assertEqual(raised(Refused, class_tails, module).reason, "many")

    def test_order_of_tails_in_a_row(self):
        # Each place of the row is told by the right side behind which it stands.
        module = trivial_module(Group(abelian((2, 2, 2))), 2, 2)
        sides = [(0, 0), (0, 1), (0, 2), (1, 1), (1, 2), (2, 2)]
        for at, (i, j) in enumerate(sides):
            for k in range(2):
                tails = tuple(1 if place == 2 * at + k else 0 for place in range(12))
                made = extension(module, tails)
                for one, two in sides:
                    row = made.powers[one] if one == two else made.conjugate_row(one, two)
                    expected = tuple(1 if (one, two) == (i, j) and k == place else 0 for place in range(2))
                    self.assertEqual(row[3:], expected)
                    unit = tuple(1 if one != two and place == two else 0 for place in range(3))
                    self.assertEqual(row[:3], unit)

    def test_known_extensions(self):
        four = trivial_module(Group(abelian((2, 2))), 2, 1)
        found = [plain_of(extension(four, tails)) for tails in class_tails(four)]
        orders = sorted(sorted(plain.order_of(x) for x in plain.rows) for plain in found)
        known = [plain_of(made) for made in (abelian((2, 2, 2)), *[abelian((4, 2))] * 3, *[dihedral(4)] * 3, dicyclic(2))]
        self.assertEqual(orders, sorted(sorted(plain.order_of(x) for x in plain.rows) for plain in known))
        three = Module(Group(cyclic(2)), 3, 1, [((2,),)])
        self.assertEqual(extension(three, (0,)), dihedral(3))
        self.assertEqual(str(extension(three, (0,))), "2 3: 0 0; 0 2; 0 0")
        self.assertEqual((cocycles(three), coboundaries(three)), ((), ()))
        self.assertEqual(raised(Refused, extension, three, (1,)).reason, "cocycle")

    def test_the_group_of_order_one(self):
        for p, d in ((2, 1), (3, 2), (31, 2), (2, 10)):
            module = trivial_module(Group(cyclic(1)), p, d)
            self.assertEqual((cocycles(module), coboundaries(module), class_tails(module)), ((), (), ((),)))
            self.assertEqual(extension(module, ()), abelian((p,) * d))
            self.assertIs(is_split(module, ()), True)
            self.assertEqual(class_count(module), 1)

    def test_malformed_tails(self):
        for module in (trivial_module(Group(cyclic(1)), 2, 1), trivial_module(Group(cyclic(2)), 2, 1),
                       trivial_module(Group(cyclic(2)), 3, 2), Module(Group(symmetric(3)), 3, 1, [((2,),), ((1,),)])):
            width = width_of(module)
            for value in (*odd_values(), (0,) * (width + 1), [0] * width, (0,) * (width - 1) + (module.p,),
                          (0,) * (width - 1) + (-1,), (False,) * width, (0,) * (width - 1) + (True,), module):
                good = (isinstance(value, tuple) and len(value) == width
                        and all(is_plain_integer(item) and 0 <= item < module.p for item in value))
                if good:
                    self.assertIs(is_consistent(told_presentation(module, value)), value in every_cocycle(module))
                else:
                    raised(Malformed, extension, module, value)
                    raised(Malformed, is_split, module, value)

    def test_larger_modules(self):
        for made, p, d in ((abelian((2,) * 9), 2, 1), (abelian((2,) * 5), 2, 5), (direct(symmetric(4), symmetric(3)), 7, 1),
                           (wreath(cyclic(2), 5), 2, 2), (cyclic(512), 2, 1), (metacyclic(31, 30, 3), 1 + 1, 1)):
            group = Group(made)
            if group.order * p ** d > 1024:
                self.assertEqual(raised(Refused, trivial_module, group, p, d).reason, "large")
                continue
            module = trivial_module(group, p, d)
            for row in (*cocycles(module), *coboundaries(module)):
                self.assertEqual(extension(module, row), told_presentation(module, row))
            self.assertIs(all(is_split(module, row) for row in coboundaries(module)), True)

    def test_extensions_hold_the_module_and_the_group(self):
        module = Module(Group(symmetric(3)), 2, 2, [((0, 1), (1, 0)), ((0, 1), (1, 1))])
        for tails in class_tails(module):
            large = Plain(Group(extension(module, tails)))
            rows = frozenset((0, 0) + v for v in every_row(2, 2))
            self.assertTrue(large.is_normal(rows))
            self.assertEqual(len(large.rows), 24)


if __name__ == "__main__":
    unittest.main()
