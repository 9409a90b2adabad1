"""Regions of a flat web of rules with forms, along a course: what is in them and what surrounds them, as skews.

The skew of a region has the legs of its ring, in sequence. What surrounds it has as many legs: each one faces a leg of
the ring, the last leg first. Both are made when they are needed, and kept.
"""

from onebasis.bundles import from_least_bundle, joined_bundle, shut_bundle, turned_bundle
from onebasis.courses import rings_of
from onebasis.foundforms import form_of
from onebasis.joining import joined_regions, ring_behind
from onebasis.legwork import leg_mask, sums_of
from onebasis.normals import skew_of
from onebasis.skews import Skew, beside_skews, closed_skew, set_pair, skew_worths, turned_skew
from onebasis.surfaces import other_ends


class Regions:
    """The regions of a web along a course, their rings, and the skews that were made so far."""

    def __init__(self, whole, links):
        self.whole = whole
        self.links = list(links)
        self.ends = other_ends(whole.ties)
        self.places, self.joins = joined_regions(len(whole.rules), links)
        self.rings = rings_of(whole, links, self.joins)
        self.thirds = {}
        for k, (one, other) in enumerate(self.joins):
            self.thirds[one] = (len(whole.rules) + k, other, links[k])
            self.thirds[other] = (len(whole.rules) + k, one, links[k][::-1])
        self.within = {}
        self.around = {}
        self.count = 0


def inner_skew(told, region):
    """The sum over all bits on the ties that are closed in the region."""
    if region not in told.within:
        if region < len(told.whole.rules):
            rule = told.whole.rules[region]
            bundle = ([(region, k) for k in range(rule.legs)], skew_of(form_of(rule)))
        else:
            at = region - len(told.whole.rules)
            one, other = told.joins[at]
            first = (told.rings[one], inner_skew(told, one))
            second = (told.rings[other], inner_skew(told, other))
            bundle = joined_bundle(first, second, told.links[at])
        told.within[region] = from_least_bundle(shut_bundle(bundle, told.ends, {}))[1]
        told.count += 1
    return told.within[region]


def last_regions(told):
    """The regions that are part of none."""
    return [region for region in range(len(told.places)) if region not in told.thirds]


def last_product(told, left_out):
    """The product of what all last regions but one come to."""
    number = 1
    for region in last_regions(told):
        if region != left_out:
            number = number * inner_skew(told, region).number % told.whole.prime
    return number


def outer_skew(told, region):
    """The sum over all bits on the ties that are not closed in the region, for bits at the legs that face its ring."""
    if region not in told.around:
        if region in told.thirds:
            skew = part_surrounding(told, region)
        else:
            skew = Skew(told.whole.prime, last_product(told, region), [], [])
        told.around[region] = skew
        told.count += 1
    return told.around[region]


def part_surrounding(told, region):
    """What surrounds a part of a third region: what surrounds that one, with the other part put in."""
    third, other, (near, far) = told.thirds[region]
    own, more = ring_behind(told.rings[region], near), ring_behind(told.rings[other], far)
    skew = widened_skew(told, outer_skew(told, third), told.rings[third], (own + more)[::-1])
    # Now own faces its legs, the last one first, then come those that face more, and then more itself.
    inside = (told.rings[other], inner_skew(told, other))
    inside = turned_bundle(inside, told.rings[other].index(far) + 1)[1]
    skew = beside_skews(turned_skew(skew, len(more)), inside)
    for at in reversed(range(len(own), len(own) + len(more))):
        skew = closed_skew(skew, at, 1)
    # What is left of the other part is the leg that the tie leads to.
    facing = own[::-1] + [near]
    return turned_skew(skew, facing.index(told.rings[region][-1]))


def widened_skew(told, skew, ring, facing):
    """What faces these legs, as they stand round before ties among them are closed; the skew faces the ring alone.

    It is 0 where the two legs of such a tie have unlike bits.
    """
    held = {leg: True for leg in ring}
    where = [k for k, leg in enumerate(facing) if leg in held]
    if where:
        skew = turned_skew(skew, ring[::-1].index(facing[where[0]]))
    marks = [0] * len(facing)
    table = [[0] * len(facing) for _ in facing]
    for i, mark, row in zip(where, skew.marks, skew.table):
        marks[i] = mark
        for j, number in zip(where, row):
            table[i][j] = number
    for k, leg in enumerate(facing):
        if leg not in held:
            other = facing.index(told.ends[leg])
            if k < other:
                set_pair(told.whole.prime, table, k, other, 1)
    return Skew(told.whole.prime, skew.number, marks, table)


def facing_table(told, place):
    """For all bits at the legs of a place, ascending: the sum over all bits on all ties of the others' products."""
    ring = told.rings[place]
    legs = [(place, k) for k in range(told.whole.rules[place].legs)]
    worths = skew_worths(outer_skew(told, place))
    # The legs that face the ring stand the other way round, so that the first leg of the ring has the lowest bit.
    masks = [1 << ring.index(leg) if leg in ring else 0 for leg in legs]
    table = [worths[k] for k in sums_of(masks, 0)]
    for leg, other in told.whole.ties:
        if leg[0] == place and other[0] == place and leg not in ring:
            one, two = leg_mask(len(legs), leg[1]), leg_mask(len(legs), other[1])
            table = [0 if (k & one == 0) != (k & two == 0) else x for k, x in enumerate(table)]
    return table


def tie_share(told, table, tie, bit):
    """The part of the whole sum at which the tie has the bit; table is what faces the place of its first leg."""
    place, leg = tie[0]
    rule = told.whole.rules[place]
    mask = leg_mask(rule.legs, leg)
    total = 0
    for k, (x, y) in enumerate(zip(rule.table, table)):
        if (k & mask != 0) == (bit == 1):
            total += x * y
    return total % rule.prime
