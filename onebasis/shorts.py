"""Rules as products of rules of as few legs each as can be, and sums of webs whose rules need no more than two each."""

from itertools import combinations

from onebasis.errors import NotShort
from onebasis.factoring import is_split, worths_at
from onebasis.fields import led_by_one
from onebasis.pfaffians import first_not_zero
from onebasis.rules import Rule, beside, closed, joined, regrouped, scaled, want_rule
from onebasis.webs import want_web

MOST_SHORT = 2


def bunches_of(rule):
    """The ascending tuples of the fewest legs such that the rule is a product of a rule of each."""
    want_rule(rule)
    base = first_not_zero(rule.table)
    if base is None:
        return []
    left = list(range(rule.legs))
    bunches = []
    while left:
        bunch = least_bunch(rule, base, left)
        bunches.append(bunch)
        left = [leg for leg in left if leg not in bunch]
    return bunches


def least_bunch(rule, base, left):
    """The fewest of these legs, the first one among them, that the rule can be parted off with."""
    for many in range(len(left)):
        for others in combinations(left[1:], many):
            bunch = (left[0],) + others
            if is_split(rule, base, bunch):
                return bunch
    return tuple(left)


def factors(rule):
    """The pair of a number and the rules of the bunches, whose product times the number is the rule."""
    bunches = bunches_of(rule)
    base = first_not_zero(rule.table)
    if base is None:
        return (0, [])
    # The least bits at which the rule is not 0 are the least ones of each factor, too.
    tables = [worths_at(rule, base, bunch) for bunch in bunches]
    tables = [led_by_one(rule.prime, table, first_not_zero(table)) for table in tables]
    return (rule.table[base], [Rule(rule.prime, table) for table in tables])


def is_short(rule):
    """Whether each bunch of the rule has at most two legs."""
    return all([len(bunch) <= MOST_SHORT for bunch in bunches_of(rule)])


def short_sum(web):
    """The sum of a web of short rules."""
    want_web(web)
    for place, rule in enumerate(web.rules):
        if not is_short(rule):
            raise NotShort(place)
    number, lots = 1, []
    for place, rule in enumerate(web.rules):
        share, told = factors(rule)
        number = number * share % web.prime
        for bunch, factor in zip(bunches_of(rule), told):
            lots.append(([(place, k) for k in bunch], factor))
    if number == 0:
        return Rule(web.prime, [0] * (1 << len(web.outer)))
    for one, other in web.ties:
        lots = tied_lots(lots, one, other)
    return lots_beside(web.prime, number, lots, web.outer)


def tied_lots(lots, one, other):
    """The pairs of legs and the rule that they have, with two legs tied; legs are at most two of each."""
    near = [lot for lot in lots if one in lot[0] or other in lot[0]]
    far = [lot for lot in lots if one not in lot[0] and other not in lot[0]]
    if len(near) == 1:
        return far + [([], closed(near[0][1], 0, 1))]
    (names, rule), (further, more) = near if one in near[0][0] else near[::-1]
    told = joined(rule, names.index(one), more, further.index(other))
    return far + [([leg for leg in names + further if leg not in (one, other)], told)]


def lots_beside(prime, number, lots, outer):
    """The rule, with legs in the sequence of outer, that is the number times the product of the lots' rules."""
    whole, names = Rule(prime, [1]), []
    for legs, rule in lots:
        whole, names = beside(whole, rule), names + list(legs)
    return scaled(regrouped(whole, [names.index(leg) for leg in outer]), number)
