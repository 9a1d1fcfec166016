"""Integers, and numbers modulo the primes 2, 3, 5 and 7."""

from algebraparts.errors import Refused

PRIMES = (2, 3, 5, 7)


def is_integer(value):
    """Return True if the value is an integer and not True or False, for every value."""
    return isinstance(value, int) and not isinstance(value, bool)


def is_positive(value):
    """Return True if the value is an integer from 1 on, for every value."""
    return is_integer(value) and value >= 1


def is_prime_here(value):
    """Return True if the value is one of the integers 2, 3, 5, 7, for every value."""
    return is_integer(value) and value in PRIMES


def power(a, k):
    """Return the integer `a` to the power `k`, from 0 on."""
    out = 1
    for place in reversed(range(k.bit_length())):
        out = out * out
        if (k >> place) % 2 == 1:
            out = out * a
    return out


def factors(n):
    """Return the list of the pairs of a prime of `n` and its exponent, ascending."""
    pairs = []
    prime = 2
    while prime * prime <= n:
        times = 0
        while n % prime == 0:
            n = n // prime
            times += 1
        if times > 0:
            pairs.append((prime, times))
        prime += 1
    if n > 1:
        pairs.append((n, 1))
    return pairs


def divisors(n):
    """Return the tuple of the divisors of an integer from 1 on, ascending."""
    found = [1]
    for prime, times in factors(n):
        found = [d * power(prime, k) for d in found for k in range(times + 1)]
    return tuple(sorted(found))


def inverse(a, p):
    """Return the number from 1 to p - 1 whose product with the integer `a` is 1 modulo `p`."""
    for b in range(1, p):
        if a * b % p == 1:
            return b
    raise Refused("inverse")
