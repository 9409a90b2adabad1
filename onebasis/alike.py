"""Which bases are alike: those by which the same rules get forms."""

from onebasis.bases import Basis, want_basis
from onebasis.checks import is_prime
from onebasis.errors import BadBasis
from onebasis.fields import inverse_of


def points(prime):
    """The points of a prime, ascending."""
    return [(0, 1)] + [(1, t) for t in range(prime)]


def point_of(prime, pair):
    """The point on which a pair of numbers lies that are not both 0."""
    first = pair[0] if pair[0] else pair[1]
    number = inverse_of(prime, first)
    return (pair[0] * number % prime, pair[1] * number % prime)


def basis_of_columns(prime, one, other):
    """The basis with these columns."""
    return Basis(prime, [(one[0], other[0]), (one[1], other[1])])


def columns_of(basis):
    """Both columns of the basis."""
    return [tuple([row[k] for row in basis.rows]) for k in range(2)]


def all_bases(prime):
    """All plain bases, ascending by their columns."""
    if not is_prime(prime):
        raise BadBasis("prime")
    every = points(prime)
    return [basis_of_columns(prime, one, other) for one in every for other in every if one < other]


def plain_basis(basis):
    """The plain basis on whose columns those of the basis lie."""
    want_basis(basis)
    one, other = sorted([point_of(basis.prime, column) for column in columns_of(basis)])
    return basis_of_columns(basis.prime, one, other)


def is_alike(basis, other):
    """Whether both have one plain basis."""
    want_basis(basis)
    want_basis(other)
    if other.prime != basis.prime:
        raise BadBasis("other")
    return plain_basis(basis) == plain_basis(other)
