"""Modules of a group and extensions by them (points 9.1 to 9.4)."""

from polychains.collect import Collector, is_consistent, overlaps
from polychains.errors import Malformed, Refused
from polychains.group import Group
from polychains.linear import (add, all_rows, identity, is_invertible, is_matrix, is_row, matrix_power, moved,
                               relations, rest, scaled, space_holds, span, times)
from polychains.pres import MOST_GENERATORS, MOST_ORDER, Presentation
from polychains.sequence import combined
from polychains.whole import is_integer, is_small_prime, power

MOST_CLASSES = 1000


def _check_numbers(p, d):
    if not is_small_prime(p):
        raise Malformed("p is no prime from 2 to 31")
    if not is_integer(d) or d < 1:
        raise Malformed("the dimension is no integer from 1 on")


def _check_matrices(group, p, d, matrices):
    if not isinstance(matrices, (list, tuple)) or len(matrices) != group.n:
        raise Malformed("the matrices are no list or tuple with one for each generator")
    if not all([is_matrix(matrix, p, d) for matrix in matrices]):
        raise Malformed("a matrix is no tuple of rows")


def _check_size(group, p, d):
    # A very large dimension is refused before its power is computed.
    if d > MOST_GENERATORS or group.order * power(p, d) > MOST_ORDER:
        raise Refused("large")


class Module:
    """A module of a group: rows modulo a prime, moved by a matrix for each generator."""

    def __init__(self, group, p, d, matrices):
        _check_numbers(p, d)
        _check_matrices(group, p, d, matrices)
        _check_size(group, p, d)
        self.group = group
        self.p = p
        self.d = d
        self.matrices = tuple(matrices)
        if not all([is_invertible(matrix, p) for matrix in matrices]) or not self._holds():
            raise Refused("module")

    def __eq__(self, other):
        return (isinstance(other, Module) and self.group == other.group and self.p == other.p
                and self.d == other.d and self.matrices == other.matrices)

    def acted(self, v, x):
        """Returns the row `v x`."""
        for letter in self.group.presentation.letters(x):
            v = moved(v, self.matrices[letter - 1], self.p)
        return v

    def _matrix_of(self, x):
        """Returns the product of the matrices of the letters of the normal word of `x`."""
        return tuple([self.acted(unit, x) for unit in identity(self.d)])

    def _holds(self):
        """Tells whether the matrices fulfil the relations of the group."""
        made = self.group.presentation
        for i, matrix in enumerate(self.matrices):
            if matrix_power(matrix, made.primes[i], self.p) != self._matrix_of(made.powers[i]):
                return False
            for j in range(i + 1, made.n):
                right = times(matrix, self._matrix_of(made.conjugate_row(i, j)), self.p)
                if times(self.matrices[j], matrix, self.p) != right:
                    return False
        return True


def trivial_module(group, p, d):
    """Returns the module with unit matrices."""
    _check_numbers(p, d)
    _check_size(group, p, d)
    return Module(group, p, d, (identity(d),) * group.n)


def _width(module):
    """Returns the length of a row of tails."""
    n = module.group.n
    return n * (n + 1) // 2 * module.d


def _presented(module, tails):
    """Returns the presentation of the extension with these tails, consistent or not."""
    made = module.group.presentation
    d = module.d
    zeros = (0,) * made.n
    units = [zeros + unit for unit in identity(d)]
    powers = []
    conjugates = []
    at = 0
    for i, matrix in enumerate(module.matrices):
        sides = []
        for side in (made.powers[i], *made.conjugates[i]):
            sides.append(side + tails[at:at + d])
            at += d
        powers.append(sides[0])
        conjugates.append((*sides[1:], *[zeros + row for row in matrix]))
    powers.extend([(0,) * (made.n + d)] * d)
    conjugates.extend([tuple(units[k + 1:]) for k in range(d)])
    return Presentation(made.primes + (module.p,) * d, tuple(powers), tuple(conjugates))


def _differences(module, tails):
    """Returns the differences of the rows of the module behind both words of the overlaps of the group."""
    n = module.group.n
    made = _presented(module, tails)
    collector = Collector(made)
    empty = (0,) * made.n
    found = []
    for word, one, two in overlaps(made):
        # The overlaps with a generator of the module collect equal.
        if max(word) <= n:
            minus = scaled(collector.behind(empty, two)[n:], -1, module.p)
            found.extend(add(collector.behind(empty, one)[n:], minus, module.p))
    return tuple(found)


def cocycles(module):
    """Returns the space of the tails for which the presentation is consistent."""
    # The differences depend on the tails in a linear way, as without tails there are none.
    rows = [_differences(module, unit) for unit in identity(_width(module))]
    return relations(rows, len(overlaps(module.group.presentation)) * module.d, module.p)


def _tails_of(module, group, members):
    """Returns the tails with which elements of an extension fulfil the relations of the generators."""
    made = module.group.presentation
    found = []
    for i in range(made.n):
        right = combined(group, members, made.powers[i])
        found.append(group.divided(right, group.power(members[i], made.primes[i])))
        for j in range(i + 1, made.n):
            right = group.multiply(members[i], combined(group, members, made.conjugate_row(i, j)))
            found.append(group.divided(right, group.multiply(members[j], members[i])))
    return tuple([item for x in found for item in x[made.n:]])


def coboundaries(module):
    """Returns the space of the tails that other lifts of the generators have in the split extension."""
    n = module.group.n
    d = module.d
    split = Group(_presented(module, (0,) * _width(module)))
    lifts = [split.generator(i) for i in range(n)]
    rows = []
    for i in range(n):
        for k in range(d):
            members = lifts[:i] + [split.multiply(lifts[i], split.generator(n + k))] + lifts[i + 1:]
            rows.append(_tails_of(module, split, members))
    return span(rows, _width(module), module.p)


def class_count(module):
    """Returns the number of classes of extensions."""
    return power(module.p, len(cocycles(module)) - len(coboundaries(module)))


def class_tails(module):
    """Returns the ascending tuple of the cocycles with 0 at the pivots of the coboundaries."""
    p = module.p
    width = _width(module)
    bounds = coboundaries(module)
    space = span([rest(bounds, row, p) for row in cocycles(module)], width, p)
    if power(p, len(space)) > MOST_CLASSES:
        raise Refused("many")
    return tuple(all_rows(space, width, p))


def extension(module, tails):
    """Returns the presentation of the extension with these tails."""
    if not is_row(tails, module.p, _width(module)):
        raise Malformed("the tails are no row of tails")
    made = _presented(module, tails)
    if not is_consistent(made):
        raise Refused("cocycle")
    return made


def is_split(module, tails):
    """Tells whether the extension with these tails is split."""
    extension(module, tails)
    return space_holds(coboundaries(module), tails, module.p)
