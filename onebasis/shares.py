"""Shares of the sum of a web: what is summed over those bits at which some ties have told bits."""

from onebasis.checks import are_bits, is_list
from onebasis.closings import flat_sum
from onebasis.courses import course_of, is_own_tie
from onebasis.errors import BadBits, BadTies, BadWeb
from onebasis.legwork import numbering, spots_of
from onebasis.regionskews import Regions, facing_table, tie_share
from onebasis.rules import set_leg
from onebasis.webforms import forms_of, want_flat
from onebasis.webs import Web, leg_counts, want_web


def want_ties(web, ties):
    """Refuses what is no ascending list of unlike ties of the web."""
    if not is_list(ties) or not all([is_own_tie(web, tie) for tie in ties]):
        raise BadTies("a list of ties of the web is wanted")
    if not all([ties[k] < ties[k + 1] for k in range(len(ties) - 1)]):
        raise BadTies("an ascending list of ties is wanted")


def legs_left(web, ties):
    """The dict from each leg that stands in none of the ties to the leg that it is without them."""
    gone = {leg: True for tie in ties for leg in tie}
    return numbering([[leg for leg in spot if leg not in gone] for spot in spots_of(leg_counts(web))])


def pinned(web, ties, bits):
    """The web without the ties, both legs of each having its bit."""
    want_web(web)
    want_ties(web, ties)
    if not are_bits(bits, len(ties)):
        raise BadBits("as many bits as ties are wanted")
    fixed = {leg: bit for tie, bit in zip(ties, bits) for leg in tie}
    rules = []
    for place, rule in enumerate(web.rules):
        # From the last leg on, so that the numbers of those that are still to be set stay.
        for k in reversed(range(rule.legs)):
            if (place, k) in fixed:
                rule = set_leg(rule, k, fixed[(place, k)])
        rules.append(rule)
    now = legs_left(web, ties)
    left = [(now[one], now[other]) for one, other in web.ties if one in now]
    return Web(web.prime, rules, left, [now[leg] for leg in web.outer])


def share(web, ties, bits):
    """The sum of a flat web over those bits alone at which the ties have these bits."""
    told = pinned(web, ties, bits)
    want_flat(web)
    forms_of(web)
    return flat_sum(told)


def shares(web):
    """For each tie of a flat web the pair of the sums over the bits at which it has 0, and at which it has 1."""
    want_web(web)
    if web.outer:
        raise BadWeb("outer")
    want_flat(web)
    forms_of(web)
    told = Regions(web, course_of(web))
    tables = [facing_table(told, place) for place in range(len(web.rules))]
    return [tuple([tie_share(told, tables[tie[0][0]], tie, bit) for bit in (0, 1)]) for tie in web.ties]
