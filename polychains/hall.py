"""Hall and Sylow subgroups (points 8.1 to 8.4)."""

from polychains.classes import normalizer
from polychains.complement import complement, differences
from polychains.errors import Malformed, Refused
from polychains.group import Group
from polychains.linear import solve
from polychains.pres import Presentation
from polychains.quotient import Quotient
from polychains.sequence import combined
from polychains.series import minimal_normal
from polychains.subgroup import (conjugated, generated, is_subgroup_of, meet, representative, trivial,
                                 whole)
from polychains.whole import factors, is_small_prime


def _check_primes(primes):
    if not isinstance(primes, (list, tuple)) or not all([is_small_prime(p) for p in primes]):
        raise Malformed("the primes are no list or tuple of primes from 2 to 31")


def _check_subgroup(group, u):
    if not is_subgroup_of(u, group):
        raise Malformed("the value is no subgroup of the group")


def _prime_factors(n):
    return [p for p, _ in factors(n)]


def _is_number_of(n, primes):
    """Tells whether all prime factors of `n` are among the primes."""
    return all([p in primes for p in _prime_factors(n)])


def _is_prime_to(n, primes):
    """Tells whether no prime factor of `n` is among the primes."""
    return not any([p in primes for p in _prime_factors(n)])


def _is_hall(u, primes):
    return _is_number_of(u.order, primes) and _is_prime_to(u.index(), primes)


def is_hall(group, u, primes):
    """Tells whether a subgroup is a Hall subgroup for the primes."""
    _check_subgroup(group, u)
    _check_primes(primes)
    return _is_hall(u, primes)


def _as_group(u):
    """Returns the group whose generators are the rows of a subgroup."""
    group = u.group
    primes = [group.primes[at] for at in u.places]
    powers = [u.exponents(group.power(row, p)) for row, p in zip(u.rows, primes)]
    conjugates = [tuple([u.exponents(group.conjugated(later, row)) for later in u.rows[i + 1:]])
                  for i, row in enumerate(u.rows)]
    return Group(Presentation(tuple(primes), tuple(powers), tuple(conjugates)))


def _complement_inside(u, n):
    """Returns a complement of `n`, which is contained in `u` and normal there, in `u`."""
    own = _as_group(u)
    found = complement(own, generated(own, [u.exponents(row) for row in n.rows]))
    return generated(u.group, [combined(u.group, u.rows, row) for row in found.rows])


def _hall(group, primes):
    if _is_number_of(group.order, primes):
        return whole(group)
    if _is_prime_to(group.order, primes):
        return trivial(group)
    least = minimal_normal(group)
    quotient = Quotient(group, least)
    above = quotient.lifted(_hall(quotient.group, primes))
    if _is_number_of(least.order, primes):
        return above
    # The order of the least normal subgroup is prime to its index here, so there is a complement.
    return _complement_inside(above, least)


def hall(group, primes):
    """Returns a Hall subgroup for the primes."""
    _check_primes(primes)
    return _hall(group, primes)


def sylow(group, p):
    """Returns a Sylow subgroup for a prime."""
    _check_primes((p,))
    return _hall(group, (p,))


def _last_move(u, h, n):
    """Returns an element `x` of `n` for which `U^x` is contained in `H`, if `U N` is contained in `H N`.

    `n` is a least normal subgroup whose order is prime to that of `h`.
    """
    group = u.group
    p = factors(n.order)[0][0]
    of_coset = {representative(n, y): y for y in h.all_members()}
    rows = []
    right = []
    for x in u.rows:
        # `v^-1 x v` is x times the inverse of v^x times v, and the element of H in the coset of x.
        moving = differences(n, x)
        rows.extend([tuple([row[at] for row in moving]) for at in range(len(moving))])
        right.extend(n.exponents(group.divided(x, of_coset[representative(n, x)])))
    return combined(group, n.rows, solve(rows, len(n.rows), right, p))


def _moved_into(group, u, h):
    if u.is_inside(h):
        return group.identity()
    least = minimal_normal(group)
    quotient = Quotient(group, least)
    x = quotient.lift(_moved_into(quotient.group, quotient.image_of(u), quotient.image_of(h)))
    if least.is_inside(h):
        return x
    return group.multiply(x, _last_move(conjugated(u, x), h, least))


def moved_into(group, u, h):
    """Returns an element `x` for which `U^x` is contained in the Hall subgroup `H`."""
    _check_subgroup(group, u)
    _check_subgroup(group, h)
    primes = _prime_factors(h.order)
    if not _is_hall(h, primes) or not _is_number_of(u.order, primes):
        raise Refused("order")
    return _moved_into(group, u, h)


def sylow_count(group, p):
    """Returns the number of Sylow subgroups for a prime."""
    return normalizer(sylow(group, p)).index()


def sylow_system(group):
    """Returns a Sylow subgroup for each prime factor of the order, any two of which permute."""
    primes = _prime_factors(group.order)
    without = {p: hall(group, [q for q in primes if q != p]) for p in primes}
    found = []
    for p in primes:
        common = whole(group)
        for q in primes:
            if q != p:
                common = meet(common, without[q])
        found.append(common)
    return tuple(found)
