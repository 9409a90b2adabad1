"""The unit of a prime: a square root of -1 where there is one, otherwise -1."""

from onebasis.checks import is_prime
from onebasis.errors import BadRule


def unit(prime):
    """The pair of the unit of the prime and its order."""
    if not is_prime(prime):
        raise BadRule("prime")
    for number in range(prime):
        if number * number % prime == prime - 1:
            return (number, 4)
    return (prime - 1, 2)
