"""Webs with their places in another sequence: which are the same web, and which places are alike."""

from onebasis.around import want_place
from onebasis.checks import is_from, is_list
from onebasis.errors import BadNumber
from onebasis.walks import Ground, alike_starts, in_order, least_match, many_matches, plain_ground, telling_from
from onebasis.webs import want_web


def renumbered(web, order):
    """The web whose place k is place order[k] of the web."""
    want_web(web)
    if not is_list(order) or not all([is_from(place, 0, len(web.rules) - 1) for place in order]):
        raise BadNumber("order")
    if sorted(order) != list(range(len(web.rules))):
        raise BadNumber("order")
    return in_order(web, order)


def straight(web):
    """The ground of a web for walks that are not turned."""
    want_web(web)
    return Ground(web, False)


def telling(web, place):
    """What the walk from the place tells: for each place its table, and the other ends of its legs."""
    ground = straight(web)
    want_place(web, place, "place")
    return telling_from(ground, (place, 0))


def plain_web(web):
    """The web renumbered by the least tellings of its pieces."""
    return plain_ground(straight(web))


def many_renumberings(web, other):
    """How many orders renumber the web to the other one."""
    return many_matches(straight(web), straight(other))


def least_renumbering(web, other):
    """The least order that renumbers the web to the other one; None without one."""
    told = least_match(straight(web), straight(other))
    return None if told is None else told[0]


def places_alike(web):
    """The lists of the places that orders of the web to itself lead to one another."""
    return [[place for place, _ in starts] for starts in alike_starts(straight(web))]
