"""Complements of normal elementary abelian subgroups (points 7.1 to 7.5)."""

from polychains.errors import Malformed, Refused
from polychains.linear import all_rows, add, kernel, scaled, solve, span, unsolved
from polychains.quotient import Quotient
from polychains.sequence import closed, combined
from polychains.subgroup import Subgroup, is_normal, is_subgroup_of
from polychains.whole import power

MOST_COMPLEMENTS = 1000


def _prime(n):
    """Returns the only prime that may divide the order of an elementary abelian subgroup."""
    return n.group.primes[n.places[0]] if n.places else 2


def _is_elementary(n):
    """Tells whether a subgroup is elementary abelian."""
    group = n.group
    if any([group.power(x, _prime(n)) != group.identity() for x in n.rows]):
        return False
    return all([group.multiply(x, y) == group.multiply(y, x) for x in n.rows for y in n.rows])


def _check(group, n):
    if not is_subgroup_of(n, group):
        raise Malformed("the value is no subgroup of the group")
    if not is_normal(n):
        raise Refused("normal")
    if not _is_elementary(n):
        raise Refused("abelian")


def prime_of(group, n):
    """Returns the prime of the subgroup, 2 for the subgroup 1."""
    _check(group, n)
    return _prime(n)


def _lifts(quotient):
    """Returns the elements `t_0, ..` that stand for the generators of the quotient."""
    return [quotient.lift(quotient.group.generator(k)) for k in range(quotient.group.n)]


def _fixed(quotient, members):
    """Returns the coordinates of all relations of the quotient with the members in place of its generators.

    They are those of the inverse of the right side times the left side, one row after the other.
    """
    group = quotient.source
    made = quotient.group.presentation
    found = []
    for i in range(made.n):
        right = combined(group, members, made.powers[i])
        found.append(group.divided(right, group.power(members[i], made.primes[i])))
        for j in range(i + 1, made.n):
            right = group.multiply(members[i], combined(group, members, made.conjugate_row(i, j)))
            found.append(group.divided(right, group.multiply(members[j], members[i])))
    return [item for x in found for item in quotient.kernel.exponents(x)]


def _equations(quotient):
    """Returns the rows and the right sides of the equations."""
    n = quotient.kernel
    p = _prime(n)
    lifts = _lifts(quotient)
    fixed = _fixed(quotient, lifts)
    columns = []
    for k, lift in enumerate(lifts):
        for row in n.rows:
            members = lifts[:k] + [n.group.multiply(lift, row)] + lifts[k + 1:]
            columns.append(add(_fixed(quotient, members), scaled(fixed, -1, p), p))
    rows = [tuple([column[at] for column in columns]) for at in range(len(fixed))]
    return tuple(rows), scaled(fixed, -1, p)


def _width(quotient):
    """Returns the number of the coordinates of elements of the subgroup for all generators of the quotient."""
    return quotient.group.n * len(quotient.kernel.rows)


def equations(group, n):
    """Returns the rows and the right sides of the equations whose solutions are the complements."""
    _check(group, n)
    return _equations(Quotient(group, n))


def _rows_of(quotient, solution):
    """Returns the canonical sequence of the complement that a solution tells."""
    group = quotient.source
    n = quotient.kernel
    d = len(n.rows)
    members = [group.multiply(lift, combined(group, n.rows, solution[k * d:k * d + d]))
               for k, lift in enumerate(_lifts(quotient))]
    return closed(group, members, (), quotient.group.order)


def complement(group, n):
    """Returns a complement, or None."""
    _check(group, n)
    quotient = Quotient(group, n)
    rows, right = _equations(quotient)
    solution = solve(rows, _width(quotient), right, _prime(n))
    if solution is None:
        return None
    return Subgroup(group, _rows_of(quotient, solution))


def combination(group, n):
    """Returns weights of the equations that show that there is no complement, or None."""
    _check(group, n)
    quotient = Quotient(group, n)
    rows, right = _equations(quotient)
    return unsolved(rows, _width(quotient), right, _prime(n))


def _solutions(quotient):
    """Returns all solutions of the equations."""
    p = _prime(quotient.kernel)
    width = _width(quotient)
    rows, right = _equations(quotient)
    solution = solve(rows, width, right, p)
    if solution is None:
        return []
    space = kernel(rows, width, p)
    if power(p, len(space)) > MOST_COMPLEMENTS:
        raise Refused("many")
    return [add(solution, row, p) for row in all_rows(space, width, p)]


def complements(group, n):
    """Returns all complements, ascending by their canonical sequences."""
    _check(group, n)
    quotient = Quotient(group, n)
    found = sorted([_rows_of(quotient, solution) for solution in _solutions(quotient)])
    return tuple([Subgroup(group, rows) for rows in found])


def cocycles(group, n):
    """Returns the space of the solutions with 0 in the place of all right sides."""
    _check(group, n)
    quotient = Quotient(group, n)
    rows, _ = _equations(quotient)
    return kernel(rows, _width(quotient), _prime(n))


def differences(n, x):
    """Returns the rows of the coordinates of `v` less `v^x`, for each row `v` of the subgroup."""
    group = n.group
    return [n.exponents(group.divided(group.conjugated(v, x), v)) for v in n.rows]


def coboundaries(group, n):
    """Returns the space of the rows of the coordinates of `v` less `v^(t_k)`, for the elements `v` of the subgroup."""
    _check(group, n)
    quotient = Quotient(group, n)
    parts = [differences(n, lift) for lift in _lifts(quotient)]
    rows = [tuple([item for part in parts for item in part[at]]) for at in range(len(n.rows))]
    return span(rows, _width(quotient), _prime(n))


def class_count(group, n):
    """Returns the number of classes of complements under conjugation by elements of the subgroup."""
    if complement(group, n) is None:
        return 0
    return power(_prime(n), len(cocycles(group, n)) - len(coboundaries(group, n)))
