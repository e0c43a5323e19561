"""Groups by nothing but their products: subgroups, cosets and maps found by trying all elements."""

import itertools
import random

from helpers import every_presentation, triangle
from polychains.build import (abelian, alternating, cyclic, dicyclic, dihedral, direct, heisenberg, metacyclic,
                              symmetric, wreath)
from polychains.collect import is_consistent
from polychains.group import Group
from polychains.pres import Presentation


def prime_factors(n):
    """The primes that divide `n`, ascending."""
    return [p for p in range(2, n + 1) if n % p == 0 and all(p % q for q in range(2, p))]


class Plain:
    """The elements of a group with all products; subgroups are frozensets of elements."""

    def __init__(self, group):
        self.group = group
        self.rows = list(group.all_elements())
        self.one = (0,) * group.n
        self.trivial = frozenset([self.one])
        self.all = frozenset(self.rows)
        self.products = {(x, y): group.multiply(x, y) for x in self.rows for y in self.rows}
        self.inverses = {x: y for (x, y), z in self.products.items() if z == self.one}
        self.found = None

    def times(self, *items):
        result = self.one
        for x in items:
            result = self.products[result, x]
        return result

    def power(self, x, k):
        return self.times(*[x] * k)

    def order_of(self, x):
        order = 1
        y = x
        while y != self.one:
            y = self.products[y, x]
            order += 1
        return order

    def conjugated(self, x, y):
        return self.times(self.inverses[y], x, y)

    def commutator(self, x, y):
        return self.times(self.inverses[x], self.inverses[y], x, y)

    def closing(self, items):
        """All products of the items."""
        found = {self.one}
        waiting = [self.one]
        while waiting:
            x = waiting.pop()
            for y in items:
                z = self.products[x, y]
                if z not in found:
                    found.add(z)
                    waiting.append(z)
        return frozenset(found)

    def moved(self, members, y):
        return frozenset(self.conjugated(x, y) for x in members)

    def normal_closing(self, items):
        return self.closing({self.conjugated(x, y) for x in items for y in self.rows})

    def is_normal(self, members):
        return all(self.moved(members, y) == members for y in self.rows)

    def commutators(self, one, two):
        return self.closing({self.commutator(x, y) for x in one for y in two})

    def is_abelian(self, members):
        return all(self.products[x, y] == self.products[y, x] for x in members for y in members)

    def subgroups(self):
        """All subgroups, sorted by their sizes and elements."""
        if self.found is None:
            self.found = self.all_closings()
        return self.found

    def all_closings(self):
        found = {self.trivial}
        waiting = [()]
        while waiting:
            items = waiting.pop()
            inside = self.closing(items)
            for x in self.rows:
                if x not in inside:
                    larger = self.closing((*items, x))
                    if larger not in found:
                        found.add(larger)
                        waiting.append((*items, x))
        return sorted(found, key=lambda members: (len(members), sorted(members)))

    def place(self, x):
        return min([at for at in range(self.group.n) if x[at]], default=self.group.n)

    def places(self, members):
        return sorted({self.place(x) for x in members} - {self.group.n})

    def canonical(self, members):
        """The canonical sequence of a subgroup: the only elements of the form that point 4.1 tells."""
        places = self.places(members)
        found = []
        for k, at in enumerate(places):
            fitting = [x for x in members
                       if self.place(x) == at and x[at] == 1 and not any(x[later] for later in places[k + 1:])]
            assert len(fitting) == 1, (members, at, fitting)
            found.append(fitting[0])
        return tuple(found)

    def left_coset(self, x, members):
        return frozenset(self.products[x, y] for y in members)

    def other_generators(self, chooser):
        """A group that is isomorphic, of a presentation in other generators.

        They go down through random subgroups, each normal with a prime index in the one before.
        """
        members = self.all
        chosen = []
        primes = []
        while len(members) > 1:
            derived = self.commutators(members, members)
            p = chooser.choice(prime_factors(len(members) // len(derived)))
            lower = self.closing(derived | {self.power(x, p) for x in members})
            for x in chooser.sample(sorted(members), len(members)):
                larger = self.closing(self.canonical(lower) + (x,))
                lower = larger if larger != members else lower
            chosen.append(chooser.choice(sorted(members - lower)))
            primes.append(p)
            members = lower
        return Group(self.told(chosen, primes))

    def told(self, chosen, primes):
        """The presentation in the chosen elements, found by writing all elements as normal words."""
        n = len(chosen)
        rows = {}
        for row in itertools.product(*[range(p) for p in primes]):
            rows[self.times(*[self.power(x, e) for x, e in zip(chosen, row)])] = row
        powers = tuple(rows[self.power(x, p)] for x, p in zip(chosen, primes))
        conjugates = tuple(tuple(rows[self.conjugated(chosen[j], chosen[i])] for j in range(i + 1, n))
                           for i in range(n))
        return Presentation(tuple(primes), powers, conjugates)


CONSTRUCTIONS = (cyclic(1), cyclic(2), cyclic(4), cyclic(6), abelian((2, 2)), abelian((3, 2)), abelian((5, 2)),
                 abelian((7, 2)), triangle(), cyclic(8), abelian((4, 2)), abelian((2, 2, 2)), dihedral(4), dicyclic(2),
                 abelian((3, 3)), abelian((3, 4)), dihedral(6), dicyclic(3), alternating(4), wreath(cyclic(3), 2),
                 metacyclic(5, 4, 2), metacyclic(7, 3, 2), symmetric(4), direct(symmetric(3), cyclic(4)))

LARGER = (heisenberg(3), abelian((3, 9)), direct(dihedral(4), cyclic(2)), wreath(cyclic(2), 3), dicyclic(8), wreath(cyclic(4), 2),
          direct(symmetric(3), symmetric(3)), direct(alternating(4), cyclic(3)), direct(symmetric(4), cyclic(2)))

MADE = {}


def plain_of(presentation):
    text = str(presentation)
    if text not in MADE:
        MADE[text] = Plain(Group(presentation))
    return MADE[text]


def small_groups():
    """Groups of orders up to some twenties: of constructions, and of presentations in other generators."""
    if "small" not in MADE:
        chooser = random.Random(3)
        found = [plain_of(made) for made in CONSTRUCTIONS]
        for made in (cyclic(6), cyclic(12), dicyclic(2), dihedral(6), abelian((4, 2)), dicyclic(3), alternating(4),
                     metacyclic(5, 4, 2), wreath(cyclic(3), 2), abelian((5, 4)), symmetric(4), symmetric(4)):
            found.append(plain_of(plain_of(made).other_generators(chooser).presentation))
        MADE["small"] = found
    return MADE["small"]


def larger_groups():
    """Groups of orders up to some dozens."""
    if "larger" not in MADE:
        chooser = random.Random(4)
        found = [plain_of(made) for made in LARGER]
        found.extend([plain_of(plain_of(made).other_generators(chooser).presentation) for made in LARGER])
        MADE["larger"] = found
    return MADE["larger"]


def tiny_groups():
    """The groups of all consistent presentations with some few primes."""
    for primes in ((), (2,), (3,), (2, 2), (2, 3), (3, 2), (5, 2), (2, 2, 2)):
        for made in every_presentation(primes):
            if is_consistent(made):
                yield plain_of(made)


def some_items(plain, chooser, many):
    return [chooser.choice(plain.rows) for _ in range(many)]
