"""Flat webs drawn by deeds of live webs."""

from onebasis.courses import want_course
from onebasis.errors import BadLive
from onebasis.foundforms import has_form
from onebasis.legwork import leg_sums
from onebasis.lives import Live
from onebasis.webs import is_flat, want_web


def drawn(web, course):
    """The deeds that draw the web: its places, then the ties of the course, then the other ties."""
    want_web(web)
    if web.outer or not is_flat(web) or not all([has_form(rule) for rule in web.rules]):
        raise BadLive("web")
    want_course(web, course)
    legs = [[] for _ in web.rules]
    deeds = [("add", table_at(rule, [])) for rule in web.rules]
    for tie in list(course) + [told for told in web.ties if told not in course]:
        corners = [(place, len([j for j in legs[place] if j < k])) for place, k in tie]
        for place, k in tie:
            legs[place] = sorted(legs[place] + [k])
        places = [tie[0][0], tie[1][0]] if tie[0][0] != tie[1][0] else [tie[0][0]]
        tables = tuple([table_at(web.rules[place], legs[place]) for place in places])
        deeds.append(("draw", corners[0], corners[1], tables))
    return deeds


def table_at(rule, legs):
    """The table of the rule with these legs alone, the others having bit 0."""
    return tuple([rule.table[k] for k in leg_sums(rule.legs, legs, 0)])


def live_of(web, course):
    """The live web with just these deeds done."""
    deeds = drawn(web, course)
    live = Live(web.prime)
    for deed in deeds:
        live.do(deed)
    return live
