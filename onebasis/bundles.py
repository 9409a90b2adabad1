"""Bundles: pairs of the list of the legs round some places and of a skew with these legs, joined along ties.

Weights tell what a 1 on the tie of a leg counts; where none is told, it is 1.
"""

from onebasis.joining import joined_regions, made_course, tied_neighbour
from onebasis.legwork import leg_mask, sums_of
from onebasis.skews import beside_skews, closed_skew, skew_worths, turned_skew
from onebasis.surfaces import other_ends


def turned_bundle(bundle, many):
    """The bundle with its first many legs behind the others."""
    legs, skew = bundle
    return (legs[many:] + legs[:many], turned_skew(skew, many))


def joined_bundle(bundle, further, tie):
    """Both bundles beside one another, with the legs of the tie next to one another."""
    legs, skew = turned_bundle(bundle, bundle[0].index(tie[0]) + 1)
    more, other = turned_bundle(further, further[0].index(tie[1]))
    return (legs + more, beside_skews(skew, other))


def shut_bundle(bundle, ends, weights):
    """The bundle closed over all ties whose legs come to stand next to one another."""
    at = tied_neighbour(bundle[0], ends)
    while at is not None:
        if at == len(bundle[0]) - 1:
            bundle, at = turned_bundle(bundle, 1), at - 1
        bundle = closed_bundle(bundle, at, weights)
        at = tied_neighbour(bundle[0], ends)
    return bundle


def closed_bundle(bundle, at, weights):
    """The bundle closed over the legs at a place of the list and at the next one."""
    legs, skew = bundle
    return (legs[:at] + legs[at + 2:], closed_skew(skew, at, weights.get(legs[at], 1)))


def from_least_bundle(bundle):
    """The bundle with its least leg first."""
    return turned_bundle(bundle, bundle[0].index(min(bundle[0]))) if bundle[0] else bundle


def last_bundles(bundles, ties, weights):
    """For the bundles of all places: those to which the places of each piece are joined, along a course."""
    ends = other_ends(ties)
    told = [shut_bundle(bundle, ends, weights) for bundle in bundles]
    course = made_course(len(bundles), ties)
    joins = joined_regions(len(bundles), course)[1]
    for (one, other), tie in zip(joins, course):
        told.append(shut_bundle(joined_bundle(told[one], told[other], tie), ends, weights))
        told[one] = told[other] = None
    return [bundle for bundle in told if bundle is not None]


def outer_row(prime, bundles, outer):
    """For all bits at the outer legs, ascending: the product of the worths of bundles that have just these legs."""
    row = [1] * (1 << len(outer))
    for legs, skew in bundles:
        masks = [leg_mask(len(legs), legs.index(leg)) if leg in legs else 0 for leg in outer]
        worths = skew_worths(skew)
        row = [number * worths[k] % prime for number, k in zip(row, sums_of(masks, 0))]
    return row
