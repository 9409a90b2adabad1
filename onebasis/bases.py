"""Bases: two rows of two numbers by which the bits at legs are changed."""

from onebasis.checks import are_field_numbers, is_list, is_prime
from onebasis.errors import BadBasis
from onebasis.fields import inverse_of
from onebasis.legwork import leg_mask
from onebasis.rules import Rule, want_rule


class Basis:
    """Two rows of two numbers of the field of a prime, with an inverse."""

    def __init__(self, prime, rows):
        if not is_prime(prime):
            raise BadBasis("prime")
        if not are_rows(prime, rows):
            raise BadBasis("rows")
        self.prime = prime
        self.rows = tuple([tuple(row) for row in rows])

    def __eq__(self, other):
        return isinstance(other, Basis) and self.prime == other.prime and self.rows == other.rows


def are_rows(prime, things):
    """Whether it is a list of two lists of two numbers of the field that have an inverse."""
    if not is_list(things) or len(things) != 2:
        return False
    if not all([are_field_numbers(prime, row) and len(row) == 2 for row in things]):
        return False
    return determinant(things) % prime != 0


def determinant(rows):
    """The product of the first and the last number less that of the other two."""
    return rows[0][0] * rows[1][1] - rows[0][1] * rows[1][0]


def want_basis(basis):
    """Refuses what is no Basis."""
    if not isinstance(basis, Basis):
        raise BadBasis(None)


def times(basis, other):
    """The basis whose entry (x, y) is the sum over z of entry (x, z) times the other's entry (z, y)."""
    want_basis(basis)
    want_basis(other)
    if other.prime != basis.prime:
        raise BadBasis("other")
    columns = [[row[k] for row in other.rows] for k in range(2)]
    rows = [[(x[0] * y[0] + x[1] * y[1]) % basis.prime for y in columns] for x in basis.rows]
    return Basis(basis.prime, rows)


def inverse(basis):
    """The basis whose times with this one has the rows ((1, 0), (0, 1))."""
    want_basis(basis)
    (a, b), (c, d) = basis.rows
    number = inverse_of(basis.prime, determinant(basis.rows))
    rows = [[d, -b], [-c, a]]
    return Basis(basis.prime, [[x * number % basis.prime for x in row] for row in rows])


def other_side(basis):
    """The inverse with its rows as columns."""
    rows = inverse(basis).rows
    return Basis(basis.prime, [[row[k] for row in rows] for k in range(2)])


def changed(rule, basis):
    """The rule with each leg changed by the basis."""
    want_rule(rule)
    want_basis(basis)
    if basis.prime != rule.prime:
        raise BadBasis("prime")
    return changed_by(rule, [basis] * rule.legs)


def changed_by(rule, bases):
    """The rule with each leg changed by the basis that stands for it in the list."""
    want_rule(rule)
    if not are_bases(rule.prime, bases, rule.legs):
        raise BadBasis("bases")
    table = list(rule.table)
    for leg, basis in enumerate(bases):
        table = changed_leg(rule.prime, table, leg_mask(rule.legs, leg), basis.rows)
    return Rule(rule.prime, table)


def are_bases(prime, things, many):
    """Whether it is a list of this many bases of the prime."""
    if not is_list(things) or len(things) != many:
        return False
    return all([isinstance(x, Basis) and x.prime == prime for x in things])


def changed_leg(prime, table, mask, rows):
    """The table with the leg of the mask changed by a basis with these rows."""
    (a, b), (c, d) = rows
    fresh = list(table)
    for k, number in enumerate(table):
        if not k & mask:
            further = table[k + mask]
            fresh[k] = (number * a + further * c) % prime
            fresh[k + mask] = (number * b + further * d) % prime
    return fresh
