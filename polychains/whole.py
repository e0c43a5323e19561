"""Integers, small primes and divisors (point 1.1)."""

from polychains.errors import Refused

SMALL_PRIMES = (2, 3, 5, 7, 11, 13, 17, 19, 23, 29, 31)


def is_integer(value):
    """Tells whether a value is an integer; True and False are none."""
    return isinstance(value, int) and not isinstance(value, bool)


def is_small_prime(value):
    """Tells whether a value is a prime from 2 to 31."""
    return is_integer(value) and value in SMALL_PRIMES


def power(a, k):
    """Returns `a` to the power `k`, from 0 on."""
    result = 1
    while k > 0:
        if k & 1:
            result = result * a
        k = k >> 1
        # The last square would not be used, and may be very large.
        if k > 0:
            a = a * a
    return result


def factors(n):
    """Returns the pairs of a prime divisor of `n` and its exponent, ascending."""
    found = []
    p = 2
    while p * p <= n:
        exponent = 0
        while n % p == 0:
            n = n // p
            exponent += 1
        if exponent > 0:
            found.append((p, exponent))
        p += 1 if p == 2 else 2
    if n > 1:
        found.append((n, 1))
    return tuple(found)


def divisors(n):
    """Returns the divisors of `n`, ascending."""
    found = [1]
    for p, exponent in factors(n):
        multiples = found
        for _ in range(exponent):
            multiples = [p * d for d in multiples]
            found = found + multiples
    return tuple(sorted(found))


def inverse(a, p):
    """Returns the number from 1 to p - 1 whose product with `a` is 1 modulo the prime `p`."""
    remainder = a % p
    if remainder == 0:
        raise Refused("inverse")
    # By Fermat the power p - 1 is 1, so the power before it is the inverse.
    return power(remainder, p - 2) % p
