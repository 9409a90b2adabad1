"""Cuts: ties without which a web is flat, and sums over all bits on them."""

from itertools import combinations

from onebasis.checks import is_from
from onebasis.closings import flat_sum
from onebasis.errors import BadNumber, NotFlat, TooMany
from onebasis.legwork import bits_of
from onebasis.rules import Rule
from onebasis.shares import legs_left, pinned, want_ties
from onebasis.surfaces import is_flat_surface
from onebasis.webforms import forms_of
from onebasis.webs import want_web

MOST_SUMMED = 6
MOST_SEARCHED = 30
GREATEST_CUT = 3


def is_cut(web, ties):
    """Whether the web is flat without these ties of it."""
    now = legs_left(web, ties)
    counts = [0] * len(web.rules)
    for place, _ in now:
        counts[place] += 1
    left = [(now[one], now[other]) for one, other in web.ties if one in now]
    return is_flat_surface(counts, left, [now[leg] for leg in web.outer])


def cut_sum(web, ties):
    """The sum of a web of rules with forms, over all bits on a cut."""
    want_web(web)
    want_ties(web, ties)
    if not is_cut(web, ties):
        raise NotFlat("without these ties the web is not flat")
    forms_of(web)
    if len(ties) > MOST_SUMMED:
        raise TooMany(MOST_SUMMED)
    total = [0] * (1 << len(web.outer))
    for number in range(1 << len(ties)):
        told = flat_sum(pinned(web, ties, bits_of(number, len(ties)))).table
        total = [(x + y) % web.prime for x, y in zip(total, told)]
    return Rule(web.prime, total)


def least_cut(web, most):
    """The first cut of the fewest ties; None if it has more than most."""
    want_web(web)
    if not is_from(most, 0, GREATEST_CUT):
        raise BadNumber("most")
    if len(web.ties) > MOST_SEARCHED:
        raise TooMany(MOST_SEARCHED)
    every = list(web.ties)
    for many in range(most + 1):
        for ties in combinations(every, many):
            if is_cut(web, ties):
                return list(ties)
    return None
