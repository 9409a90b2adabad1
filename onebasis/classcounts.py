"""How many rules with so many legs are affine, product rules, short."""

from math import comb

from onebasis.checks import MOST_LEGS, is_from, is_prime
from onebasis.errors import BadNumber, BadRule
from onebasis.fields import power_of
from onebasis.units import unit


def want_counted(prime, legs):
    """Refuses what is no prime, and what is not how many legs a rule may have."""
    if not is_prime(prime):
        raise BadRule("prime")
    if not is_from(legs, 0, MOST_LEGS):
        raise BadNumber("legs")


def many_ways(legs, many):
    """How many lots of so many ways there are, as affine forms tell them."""
    if many == 0:
        return 1
    if many > legs:
        return 0
    # Either no way leads at the last leg, and each has any bit there, or one leads there, and no other one has a 1.
    return (1 << many) * many_ways(legs - 1, many) + many_ways(legs - 1, many - 1)


def affine_many(prime, legs):
    """How many rules are affine."""
    want_counted(prime, legs)
    order = unit(prime)[1]
    total = 0
    for many in range(legs + 1):
        spaces = many_ways(legs, many) << (legs - many)
        total += spaces * power_of(order, many) << many * (many - 1) // 2
    return 1 + (prime - 1) * total


def product_many(prime, legs):
    """How many rules are product rules."""
    want_counted(prime, legs)
    found = [1]
    for many in range(1, legs + 1):
        # The last leg has one bit alone, or is in a bunch with some of the others.
        total = 2 * found[many - 1]
        for others in range(many):
            bunches = comb(many - 1, others) * (prime - 1) << others
            total += bunches * found[many - 1 - others]
        found.append(total)
    return 1 + (prime - 1) * found[legs]


def short_many(prime, legs):
    """How many rules are short."""
    want_counted(prime, legs)
    single = prime + 1
    double = prime * prime * prime - prime
    found = [1, single]
    for many in range(2, legs + 1):
        # The last leg is a bunch of its own, or one with another leg.
        found.append(single * found[many - 1] + (many - 1) * double * found[many - 2])
    return 1 + (prime - 1) * found[legs]
