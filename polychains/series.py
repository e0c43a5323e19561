"""Commutators, series, exponent, abelian invariants and chief factors (points 5.1 to 5.3)."""

from math import lcm

from polychains.classes import centre
from polychains.errors import Refused
from polychains.quotient import Quotient
from polychains.subgroup import check_pair, is_normal, normal_closure, trivial, whole
from polychains.whole import factors, power


def commutators(a, b):
    """Returns the subgroup that the commutators of two normal subgroups generate."""
    check_pair(a, b)
    if not is_normal(a) or not is_normal(b):
        raise Refused("normal")
    group = a.group
    return normal_closure(group, [group.commutator(x, y) for x in a.rows for y in b.rows])


def derived_series(group):
    """Returns the terms of the derived series, from the group to 1."""
    terms = [whole(group)]
    while terms[-1].order > 1:
        terms.append(commutators(terms[-1], terms[-1]))
    return tuple(terms)


def lower_central_series(group):
    """Returns the terms of the lower central series, from the group on."""
    terms = [whole(group)]
    following = commutators(terms[-1], terms[0])
    while following.order < terms[-1].order:
        terms.append(following)
        following = commutators(terms[-1], terms[0])
    return tuple(terms)


def _above(term):
    """Returns the next term of the upper central series."""
    quotient = Quotient(term.group, term)
    return quotient.lifted(centre(quotient.group))


def upper_central_series(group):
    """Returns the terms of the upper central series, from 1 on."""
    terms = [trivial(group)]
    following = _above(terms[-1])
    while following.order > terms[-1].order:
        terms.append(following)
        following = _above(following)
    return tuple(terms)


def is_abelian(group):
    """Tells whether all elements commute."""
    return commutators(whole(group), whole(group)).order == 1


def is_nilpotent(group):
    """Tells whether the lower central series ends with 1."""
    return lower_central_series(group)[-1].order == 1


def exponent(group):
    """Returns the least number that is a multiple of the orders of all elements."""
    found = 1
    for x in group.all_elements():
        found = lcm(found, group.order_of(x))
    return found


def _rank(orders, q):
    """Returns the sum over the invariants of the lesser one of their exponent and that of `q`, a power of `p`."""
    many = len([order for order in orders if q % order == 0])
    return sum([exponent_of_p for _, exponent_of_p in factors(many)])


def _invariants_of(orders, p, most):
    """Returns the powers of `p` up to the exponent `most` that are invariants of an abelian group.

    They are told by the orders of all of its elements.
    """
    found = []
    for k in range(1, most + 1):
        q = power(p, k)
        # The rank grows from each power to the next one by the number of the invariants above.
        many = 2 * _rank(orders, q) - _rank(orders, q // p) - _rank(orders, q * p)
        found.extend([q] * many)
    return found


def abelian_invariants(group):
    """Returns the orders of the cyclic groups of which the quotient by the commutators is made."""
    quotient = Quotient(group, commutators(whole(group), whole(group))).group
    orders = [quotient.order_of(x) for x in quotient.all_elements()]
    found = []
    for p, most in factors(quotient.order):
        found.extend(_invariants_of(orders, p, most))
    return tuple(found)


def _of_prime_order(u, p):
    """Returns an element of the order `p` of a subgroup whose order the prime divides."""
    group = u.group
    # The prime of its place divides the order of a row.
    rows = [row for row, at in zip(u.rows, u.places) if group.primes[at] == p]
    return group.power(rows[0], group.order_of(rows[0]) // p)


def _smaller_inside(u):
    """Returns a normal subgroup other than 1 properly contained in a normal subgroup, or None."""
    for x in u.all_members()[1:]:
        closure = normal_closure(u.group, [x])
        if closure.order < u.order:
            return closure
    return None


def minimal_normal(group):
    """Returns a least normal subgroup, or None for the group of order 1."""
    if group.order == 1:
        return None
    last = derived_series(group)[-2]
    smaller = normal_closure(group, [_of_prime_order(last, factors(last.order)[0][0])])
    while smaller is not None:
        found = smaller
        smaller = _smaller_inside(found)
    return found


def chief_series(group):
    """Returns a chief series, from the group to 1."""
    terms = [trivial(group)]
    while terms[0].order < group.order:
        quotient = Quotient(group, terms[0])
        terms = [quotient.lifted(minimal_normal(quotient.group)), *terms]
    return tuple(terms)


def chief_factors(group):
    """Returns the ascending tuple of the pairs of the prime and the exponent of the chief factors."""
    terms = chief_series(group)
    found = [factors(above.order // below.order)[0] for above, below in zip(terms, terms[1:])]
    return tuple(sorted(found))
