"""Quotients by normal subgroups (point 4.5)."""

from polychains.errors import Malformed, Refused
from polychains.group import Group
from polychains.pres import Presentation
from polychains.subgroup import from_induced, generated, is_normal, is_subgroup_of, representative


class Quotient:
    """The quotient of a group by a normal subgroup."""

    def __init__(self, group, normal):
        if not is_subgroup_of(normal, group):
            raise Malformed("the value is no subgroup of the group")
        if not is_normal(normal):
            raise Refused("normal")
        self.source = group
        self.kernel = normal
        self._free = tuple([at for at in range(group.n) if at not in normal.places])
        self.group = Group(self._presentation())

    def _presentation(self):
        """Returns the presentation that the cosets of the powers and conjugates of the generators tell."""
        made = self.source.presentation
        free = self._free
        powers = [self.image(made.powers[i]) for i in free]
        conjugates = [tuple([self.image(made.conjugate_row(i, j)) for j in free[at + 1:]])
                      for at, i in enumerate(free)]
        return Presentation(tuple([made.primes[i] for i in free]), tuple(powers), tuple(conjugates))

    def image(self, x):
        """Returns the row of the coset of an element."""
        x = representative(self.kernel, x)
        return tuple([x[at] for at in self._free])

    def lift(self, y):
        """Returns the element of a coset that has 0 at the places of the kernel."""
        row = list(self.source.identity())
        for at, item in zip(self._free, y):
            row[at] = item
        return tuple(row)

    def image_of(self, u):
        """Returns the subgroup of the images of a subgroup."""
        return generated(self.group, [self.image(row) for row in u.rows])

    def lifted(self, u):
        """Returns the subgroup of the elements with images in a subgroup of the quotient."""
        # The lifts have other places than the rows of the kernel.
        return from_induced(self.source, [self.lift(row) for row in u.rows] + list(self.kernel.rows))
