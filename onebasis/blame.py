"""Which of many exchanged rules are to blame for a change of the sum."""

from itertools import combinations

from onebasis.around import exchanged_rules
from onebasis.checks import are_places
from onebasis.errors import BadNumber, BadWeb, TooMany
from onebasis.fillings import filled_places, outer_sums, row_without, times_row, want_few
from onebasis.rules import Rule
from onebasis.webs import leg_counts, want_web

MOST_UNLIKE = 6


def want_like(web, other):
    """Refuses what are no webs that are like one another."""
    want_web(web)
    want_web(other)
    if web.prime != other.prime or web.ties != other.ties or web.outer != other.outer:
        raise BadWeb("other")
    if leg_counts(web) != leg_counts(other):
        raise BadWeb("other")


def exchanged(web, other, places):
    """The web with the rules of other at these places."""
    want_like(web, other)
    if not are_places(places, len(web.rules)):
        raise BadNumber("places")
    return exchanged_rules(web, {place: other.rules[place] for place in places})


def blame(web, other):
    """The dict from the tuples of places of unlike rules to what exchanging just all of them adds."""
    want_like(web, other)
    unlike = [k for k in range(len(web.rules)) if web.rules[k] != other.rules[k]]
    if len(unlike) > MOST_UNLIKE:
        raise TooMany(MOST_UNLIKE)
    want_few(web)
    filled = filled_places(web)
    row = row_without(web, filled, unlike)
    lots = sorted([lot for many in range(len(unlike) + 1) for lot in combinations(unlike, many)])
    sums = [outer_sums(web, differing(web, other, filled, row, unlike, lot)) for lot in lots]
    return {lot: Rule(web.prime, told) for lot, told in zip(lots, sums) if any(told)}


def differing(web, other, filled, row, unlike, lot):
    """The row times the differences of the rules at the places of lot, and web's rules at the other unlike ones."""
    for place in unlike:
        table = web.rules[place].table
        if place in lot:
            table = [y - x for x, y in zip(table, other.rules[place].table)]
        row = times_row(web.prime, row, table, filled[place])
    return row
