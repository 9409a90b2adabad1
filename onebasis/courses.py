"""Courses of a web: joins of its places tie by tie, the regions on the way and the rings round them."""

from onebasis.checks import MOST_LEGS, is_from, is_list, is_number, is_tuple_of
from onebasis.errors import BadCourse, BadNumber, TooMany
from onebasis.joining import from_least, joined_regions, joined_ring, made_course, reduced_ring
from onebasis.legwork import spots_of
from onebasis.surfaces import other_ends
from onebasis.webs import Web, leg_counts, pieces, plain_sum, want_web


def is_course(web, thing):
    """Whether any value is a course of the web."""
    want_web(web)
    if not is_list(thing) or not all([is_own_tie(web, tie) for tie in thing]):
        return False
    if len(thing) != len(web.rules) - len(pieces(web)):
        return False
    return joined_regions(len(web.rules), thing) is not None


def is_own_tie(web, thing):
    """Whether it is a tie of the web, as it stands there."""
    if not is_tuple_of(thing, 2) or not all([is_tuple_of(leg, 2) for leg in thing]):
        return False
    return all([is_number(x) for leg in thing for x in leg]) and thing in web.ties


def want_course(web, course):
    """Refuses what is no course of the web."""
    if not is_course(web, course):
        raise BadCourse("a course of the web is wanted")


def course_of(web):
    """The course that is made in rounds."""
    want_web(web)
    return made_course(len(web.rules), web.ties)


def regions(web, course):
    """The lists of the places of all regions on the way."""
    want_web(web)
    want_course(web, course)
    return joined_regions(len(web.rules), course)[0]


def ring(web, course, region):
    """The tuple of the legs round the region, from its least one on."""
    want_web(web)
    want_course(web, course)
    many = len(web.rules)
    if not is_from(region, 0, many + len(course) - 1):
        raise BadNumber("region")
    return tuple(rings_of(web, course, joined_regions(many, course)[1])[region])


def rings_of(web, course, joins):
    """The rings of all regions, each from its least leg on; joins tells which regions each tie of the course joins."""
    ends = other_ends(web.ties)
    rings = [from_least(reduced_ring(spot, ends)) for spot in spots_of(leg_counts(web))]
    for (one, other), (leg, further) in zip(joins, course):
        rings.append(from_least(reduced_ring(joined_ring(rings[one], leg, rings[other], further), ends)))
    return rings


def region_rule(web, course, region):
    """The Rule with the legs of the ring, summed over all bits on the ties closed in the region."""
    legs = ring(web, course, region)
    places = regions(web, course)[region]
    if len(legs) > MOST_LEGS:
        raise TooMany(MOST_LEGS)
    # A leg of the region that is not in its ring was taken out with the other leg of its tie.
    shut = [tie for tie in web.ties if tie[0][0] in places and tie[0] not in legs]
    now = {place: k for k, place in enumerate(places)}
    ties = [((now[p], k), (now[q], j)) for (p, k), (q, j) in shut]
    outer = [(now[p], k) for p, k in legs]
    return plain_sum(Web(web.prime, [web.rules[p] for p in places], ties, outer))
