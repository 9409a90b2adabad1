"""Two-sided webs, and webs changed by bases on both sides of their ties."""

from onebasis.bases import Basis, are_bases, changed, changed_by, other_side, want_basis
from onebasis.checks import MOST_PLACES, are_places
from onebasis.errors import BadBasis, BadSides, TooMany
from onebasis.rules import ones
from onebasis.webs import Web, want_web


def sides(web):
    """The left places, among them the least one of each piece; None if the web is not two-sided."""
    want_web(web)
    near = [[] for _ in web.rules]
    for one, other in web.ties:
        near[one[0]].append(other[0])
        near[other[0]].append(one[0])
    side = {}
    for place in range(len(web.rules)):
        if place not in side:
            side[place] = 0
            reached = [place]
            while reached:
                here = reached.pop()
                for there in near[here]:
                    if there not in side:
                        side[there] = 1 - side[here]
                        reached.append(there)
    lefts = [place for place in range(len(web.rules)) if side[place] == 0]
    return lefts if is_two_sided(web, lefts) else None


def is_two_sided(web, lefts):
    """Whether each tie of the web has just one end at these places."""
    return all([(one[0] in lefts) != (other[0] in lefts) for one, other in web.ties])


def want_sides(web, lefts):
    """Refuses what are no left places with which the web is two-sided."""
    if not are_places(lefts, len(web.rules)) or not is_two_sided(web, lefts):
        raise BadSides("the left places of a two-sided web are wanted")


def web_changed(web, bases):
    """The web with the lesser leg of each tie changed by its basis, the other one by its other side."""
    want_web(web)
    if not are_bases(web.prime, bases, len(web.ties)):
        raise BadBasis("bases")
    plain = Basis(web.prime, [[1, 0], [0, 1]])
    told = [[plain] * rule.legs for rule in web.rules]
    for ((p, k), (q, j)), basis in zip(web.ties, bases):
        told[p][k] = basis
        told[q][j] = other_side(basis)
    rules = [changed_by(rule, bases_here) for rule, bases_here in zip(web.rules, told)]
    return Web(web.prime, rules, web.ties, web.outer)


def side_changed(web, lefts, basis):
    """The web with the rules at left places changed by the basis, the others by its other side."""
    want_web(web)
    want_sides(web, lefts)
    want_basis(basis)
    if basis.prime != web.prime:
        raise BadBasis("prime")
    other = other_side(basis)
    rules = [changed(rule, basis if place in lefts else other) for place, rule in enumerate(web.rules)]
    return Web(web.prime, rules, web.ties, web.outer)


def split(web):
    """The web with a place of two legs of one bit on each tie."""
    want_web(web)
    many = len(web.rules)
    if many + len(web.ties) > MOST_PLACES:
        raise TooMany(MOST_PLACES)
    alike = ones(web.prime, 2, [1, 0, 1])
    ties = []
    for k, (one, other) in enumerate(web.ties):
        ties = ties + [(one, (many + k, 0)), ((many + k, 1), other)]
    return Web(web.prime, list(web.rules) + [alike] * len(web.ties), ties, web.outer)
