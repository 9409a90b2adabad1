"""Bases that keep ties: under them all rules of a web may be changed alike."""

from onebasis.bases import changed, want_basis
from onebasis.checks import is_prime
from onebasis.errors import BadBasis
from onebasis.lots import bases_of
from onebasis.rules import ones
from onebasis.webs import Web, want_web


def keeps_ties(basis):
    """Whether both rows, each times itself, make one number, and each times the other 0."""
    want_basis(basis)
    (a, b), (c, d) = basis.rows
    return (a * a + b * b - c * c - d * d) % basis.prime == 0 and (a * c + b * d) % basis.prime == 0


def all_changed(web, basis):
    """The web with all rules changed by a basis that keeps ties."""
    want_web(web)
    want_basis(basis)
    if basis.prime != web.prime:
        raise BadBasis("prime")
    if not keeps_ties(basis):
        raise BadBasis("ties")
    return Web(web.prime, [changed(rule, basis) for rule in web.rules], web.ties, web.outer)


def tie_bases(prime):
    """The plain bases whose other side gives the rule of a tie a form."""
    if not is_prime(prime):
        raise BadBasis("prime")
    return bases_of(prime, [], [ones(prime, 2, [1, 0, 1])])
