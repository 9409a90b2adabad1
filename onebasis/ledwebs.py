"""Webs whose places and legs are numbered anew, their ties and outer legs led along."""

from onebasis.legwork import numbering, spots_of
from onebasis.rules import turned
from onebasis.webs import Web, leg_counts


def led_along(web, rules, spots, ties):
    """The web of these rules whose legs were those that spots tells, with these ties of the web."""
    now = numbering(spots)
    return Web(web.prime, rules, [(now[one], now[other]) for one, other in ties], [now[leg] for leg in web.outer])


def turned_along(web, turns):
    """The web with each rule turned by its number of turns."""
    rules = [turned(rule, many) for rule, many in zip(web.rules, turns)]
    spots = []
    for spot, many in zip(spots_of(leg_counts(web)), turns):
        spots.append([spot[(k + many) % len(spot)] for k in range(len(spot))])
    return led_along(web, rules, spots, web.ties)
