"""Sums of flat two-sided webs by a basis under which all their rules have forms."""

from onebasis.bases import changed_by, inverse, other_side
from onebasis.closings import flat_sum
from onebasis.lots import first_basis
from onebasis.sided import side_changed, want_sides
from onebasis.webforms import want_flat
from onebasis.webs import want_web


def basis_sum(web, lefts):
    """The pair of the first good basis and the sum of the web; None without a good basis."""
    want_web(web)
    want_sides(web, lefts)
    want_flat(web)
    left_rules = [rule for place, rule in enumerate(web.rules) if place in lefts]
    right_rules = [rule for place, rule in enumerate(web.rules) if place not in lefts]
    basis = first_basis(web.prime, left_rules, right_rules)
    if basis is None:
        return None
    told = flat_sum(side_changed(web, lefts, basis))
    # The bases on the two sides of a tie take each other back; those of outer legs are taken back here.
    back, other = inverse(basis), inverse(other_side(basis))
    return (basis, changed_by(told, [back if place in lefts else other for place, _ in web.outer]))
