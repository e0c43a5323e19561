"""Constructions of presentations (point 3.4)."""

from polychains.collect import is_consistent
from polychains.errors import Malformed, Refused
from polychains.linear import identity
from polychains.pres import MOST_ORDER, Presentation
from polychains.whole import factors, is_integer, is_small_prime, power


def _check_number(value):
    if not is_integer(value) or value < 1:
        raise Malformed("the number is no integer from 1 on")


def _check_prime(value):
    if not is_small_prime(value):
        raise Malformed("the number is no prime from 2 to 31")


def _check_points(value):
    if not is_integer(value) or not 1 <= value <= 4:
        raise Malformed("the number of points is no integer from 1 to 4")


def _check_presentation(value):
    if not isinstance(value, Presentation) or not is_consistent(value):
        raise Malformed("the value is no consistent presentation")


def _refuse_large(orders):
    """Refuses a group whose order is the product of the orders, if it or a prime is too large."""
    total = 1
    for order in orders:
        total = total * order
        if total > MOST_ORDER:
            raise Refused("large")
    if not all([is_small_prime(p) for p, _ in factors(total)]):
        raise Refused("large")


def _primes_of(n):
    return tuple([p for p, exponent in factors(n) for _ in range(exponent)])


def _row_in_cyclic(primes, k):
    """Returns the row of `r^k` in the cyclic group with these primes, for `k` from 0 on."""
    row = []
    for p in primes:
        row.append(k % p)
        k = k // p
    return tuple(row)


def _generator_exponents(n):
    """Returns the numbers `q` for which the `r^q` are the generators of the cyclic group."""
    exponents = []
    q = 1
    for p in _primes_of(n):
        exponents.append(q)
        q = q * p
    return exponents


def _power_images(n, k):
    """Returns the elements `x^k` for the generators `x` of the cyclic group."""
    primes = _primes_of(n)
    return [_row_in_cyclic(primes, q * k % n) for q in _generator_exponents(n)]


def _cyclic(n):
    primes = _primes_of(n)
    unit = identity(len(primes))
    none = (0,) * len(primes)
    conjugates = tuple([unit[i + 1:] for i in range(len(primes))])
    return Presentation(primes, (unit + (none,))[1:], conjugates)


def _over(b, a, images, tails):
    """Returns the presentation with the generators of `b`, then those of `a`.

    The generators of `b` have in `a` the images of the generators of `a`, and the tails of
    their powers.
    """
    none_b = (0,) * b.n
    none_a = (0,) * a.n
    powers = [row + tail for row, tail in zip(b.powers, tails)]
    powers.extend([none_b + row for row in a.powers])
    conjugates = [tuple([row + none_a for row in rows] + [none_b + image for image in moved])
                  for rows, moved in zip(b.conjugates, images)]
    conjugates.extend([tuple([none_b + row for row in rows]) for rows in a.conjugates])
    return Presentation(b.primes + a.primes, tuple(powers), tuple(conjugates))


def _split(b, a, images):
    """Returns the presentation with the generators of `b`, which move those of `a`."""
    return _over(b, a, images, [(0,) * a.n] * b.n)


def _direct(a, b):
    return _split(a, b, [identity(b.n)] * a.n)


def cyclic(n):
    """Returns the cyclic group."""
    _check_number(n)
    _refuse_large((n,))
    return _cyclic(n)


def abelian(orders):
    """Returns the direct product of cyclic groups."""
    if not isinstance(orders, (list, tuple)):
        raise Malformed("the orders are no list or tuple")
    for order in orders:
        _check_number(order)
    _refuse_large(orders)
    result = _cyclic(1)
    for order in orders:
        result = _direct(result, _cyclic(order))
    return result


def dihedral(n):
    """Returns the dihedral group of the order 2 n."""
    _check_number(n)
    _refuse_large((2, n))
    return _split(_cyclic(2), _cyclic(n), [_power_images(n, -1)])


def dicyclic(n):
    """Returns the dicyclic group of the order 4 n."""
    _check_number(n)
    _refuse_large((4, n))
    square = _row_in_cyclic(_primes_of(2 * n), n)
    return _over(_cyclic(2), _cyclic(2 * n), [_power_images(2 * n, -1)], [square])


def metacyclic(n, m, k):
    """Returns the cyclic group of the order `n` with one of the order `m` that acts by `k`."""
    _check_number(n)
    _check_number(m)
    if not is_integer(k):
        raise Malformed("the exponent is no integer")
    _refuse_large((n, m))
    images = []
    exponent = k % n
    for p in _primes_of(m):
        images.append(_power_images(n, exponent))
        exponent = power(exponent, p) % n
    # What is left is k^m; by 1 it has the remainder of 1, too.
    if exponent != 1 % n:
        raise Refused("action")
    return _split(_cyclic(m), _cyclic(n), images)


def heisenberg(p):
    """Returns the Heisenberg group of a prime."""
    _check_prime(p)
    _refuse_large((p, p, p))
    return _split(_cyclic(p), _direct(_cyclic(p), _cyclic(p)), [((1, 1), (0, 1))])


def _alternating_of_four():
    four = _direct(_cyclic(2), _cyclic(2))
    # (0 1 2) takes (0 1)(2 3) to (0 3)(1 2), the product, and (0 2)(1 3) to (0 1)(2 3).
    return _split(_cyclic(3), four, [((1, 1), (1, 0))])


def symmetric(n):
    """Returns the symmetric group of 1 to 4 points."""
    _check_points(n)
    if n < 3:
        return _cyclic(n)
    if n == 3:
        return _split(_cyclic(2), _cyclic(3), [((2,),)])
    # (0 1) takes (0 1 2) to its inverse, (0 1)(2 3) to itself and (0 2)(1 3) to (0 3)(1 2).
    return _split(_cyclic(2), _alternating_of_four(), [((2, 0, 0), (0, 1, 0), (0, 1, 1))])


def alternating(n):
    """Returns the alternating group of 1 to 4 points."""
    _check_points(n)
    if n < 3:
        return _cyclic(1)
    if n == 3:
        return _cyclic(3)
    return _alternating_of_four()


def direct(a, b):
    """Returns the direct product."""
    _check_presentation(a)
    _check_presentation(b)
    _refuse_large((a.order, b.order))
    return _direct(a, b)


def _are_images(value, a, b):
    """Tells whether a value has, for each generator of `b`, elements for those of `a`."""
    if not isinstance(value, (list, tuple)) or len(value) != b.n:
        return False
    for images in value:
        if not isinstance(images, (list, tuple)) or len(images) != a.n:
            return False
        if not all([a.is_row(image) for image in images]):
            return False
    return True


def semidirect(a, b, images):
    """Returns the semidirect product of `a` and `b`, by maps of `a` for the generators of `b`."""
    _check_presentation(a)
    _check_presentation(b)
    if not _are_images(images, a, b):
        raise Malformed("the images are no rows of the first group, for each generator of the second one")
    _refuse_large((a.order, b.order))
    result = _split(b, a, images)
    if not is_consistent(result):
        raise Refused("action")
    return result


def wreath(a, p):
    """Returns the wreath product of `a` and the cyclic group of a prime."""
    _check_presentation(a)
    _check_prime(p)
    _refuse_large((p,) + (a.order,) * p)
    base = _cyclic(1)
    for _ in range(p):
        base = _direct(base, a)
    unit = identity(base.n)
    return _split(_cyclic(p), base, [unit[a.n:] + unit[:a.n]])
