"""Lumps: places of a web that are led together by ties, taken as one place."""

from onebasis.checks import MOST_LEGS, are_places
from onebasis.closings import flat_sum
from onebasis.courses import course_of, ring
from onebasis.errors import BadNumber, NoEdge, TooMany
from onebasis.foundforms import has_form
from onebasis.surfaces import pieces_of
from onebasis.webs import Web, part, plain_sum, want_web


def edge_of(web, places):
    """The legs of the places that stand in no tie among them, as they stand round these; None if they do not."""
    want_web(web)
    want_lump(web, places)
    found = lump_edge(part(web, places))
    return None if found is None else [(places[p], k) for p, k in found]


def want_lump(web, places):
    """Refuses what are no places that ties lead together, and those with too many legs that stand in none."""
    if not are_places(places, len(web.rules)) or len(places) == 0:
        raise BadNumber("places")
    links = [(one[0], other[0]) for one, other in web.ties if one[0] in places and other[0] in places]
    if list(places) not in pieces_of(len(web.rules), links):
        raise BadNumber("places")
    if sum([web.rules[place].legs for place in places]) - 2 * len(links) > MOST_LEGS:
        raise TooMany(MOST_LEGS)


def lump_edge(lump):
    """The edge of all places of a web that ties lead together; None if there is none."""
    course = course_of(lump)
    legs = ring(lump, course, len(lump.rules) + len(course) - 1)
    return list(legs) if sorted(legs) == sorted(lump.outer) else None


def lumped(web, places):
    """The web in which one place, behind all others, stands for the places."""
    want_web(web)
    want_lump(web, places)
    lump = part(web, places)
    edge = lump_edge(lump)
    if edge is None:
        raise NoEdge("the places have no edge")
    fresh = lump_rule(Web(lump.prime, lump.rules, lump.ties, edge))
    others = [place for place in range(len(web.rules)) if place not in places]
    now = {(place, k): (at, k) for at, place in enumerate(others) for k in range(web.rules[place].legs)}
    for k, (p, j) in enumerate(edge):
        now[(places[p], j)] = (len(others), k)
    ties = [(now[one], now[other]) for one, other in web.ties if one in now and other in now]
    rules = [web.rules[place] for place in others] + [fresh]
    return Web(web.prime, rules, ties, [now[leg] for leg in web.outer])


def lump_rule(lump):
    """The sum of the web of the places alone."""
    if all([has_form(rule) for rule in lump.rules]):
        return flat_sum(lump)
    return plain_sum(lump)
