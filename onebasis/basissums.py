"""Sums of flat two-sided webs by a basis under which all their rules have forms."""

from onebasis.bases import changed_by, inverse, other_side
from onebasis.closings import flat_sum
from onebasis.lots import first_basis
from onebasis.sided import side_changed, want_sides
from onebasis.webforms import want_flat
from onebasis.webs import want_web


def places_right(web, lefts):
    """The places that are not among lefts."""
    return [place for place in range(len(web.rules)) if place not in lefts]


def rules_at(web, places):
    """The rules at these places."""
    return [web.rules[place] for place in places]


def taken_back(web, lefts, basis, told):
    """The sum of the web, where told is that of the web with its sides changed by the basis.

    The bases on the two sides of a tie take each other back; those of outer legs are taken back here.
    """
    back, other = inverse(basis), inverse(other_side(basis))
    return changed_by(told, [back if place in lefts else other for place, _ in web.outer])


def basis_sum(web, lefts):
    """The pair of the first good basis and the sum of the web; None without a good basis."""
    want_web(web)
    want_sides(web, lefts)
    want_flat(web)
    basis = first_basis(web.prime, rules_at(web, lefts), rules_at(web, places_right(web, lefts)))
    if basis is None:
        return None
    return (basis, taken_back(web, lefts, basis, flat_sum(side_changed(web, lefts, basis))))
