"""Sums of webs place by place along a road.

What is told of the places so far is a list of the loose legs and a row: for all bits at them, ascending, a number.
"""

from onebasis.errors import BadWeb, TooMany
from onebasis.legwork import leg_mask, sums_of
from onebasis.roads import road_width
from onebasis.rules import Rule, many_ones
from onebasis.surfaces import other_ends
from onebasis.webs import want_web

GREATEST_SUMMED = 10
NUMBER_BITS = 7


def want_narrow(web, road):
    """Refuses what is no Web, what is no road of it, and a road that is too wide."""
    if road_width(web, road) > GREATEST_SUMMED:
        raise TooMany(GREATEST_SUMMED)


def road_sum(web, road):
    """The sum of the web, place by place."""
    want_narrow(web, road)
    loose, row = end_of_road(web, road, 0)
    masks = [leg_mask(len(loose), loose.index(leg)) for leg in web.outer]
    return Rule(web.prime, [row[k] % web.prime for k in sums_of(masks, 0)])


def road_counts(web, road):
    """For each k from 0 to the number of ties: the sum over those bits of which just k are 1."""
    want_web(web)
    if web.outer:
        raise BadWeb("outer")
    want_narrow(web, road)
    # All sums are kept in one number, so many bits for each that it has room for all products, none of them reduced.
    step = NUMBER_BITS * len(web.rules) + len(web.ties) + 1
    number = end_of_road(web, road, step)[1][0]
    mask = (1 << step) - 1
    return [(number >> (step * k) & mask) % web.prime for k in range(len(web.ties) + 1)]


def end_of_road(web, road, step):
    """The loose legs and the row behind the whole road; a 1 on a tie counts as 1 << step."""
    ends = other_ends(web.ties)
    loose, row = [], [1]
    for place in road:
        loose, row = behind_place(web, ends, loose, row, place, step)
        if step == 0:
            row = [number % web.prime for number in row]
    return (loose, row)


def behind_place(web, ends, loose, row, place, step):
    """The loose legs and the row behind one place more."""
    table = web.rules[place].table
    legs = [(place, k) for k in range(web.rules[place].legs)]
    kept = [leg for leg in loose if ends.get(leg) not in legs]
    fresh = [leg for leg in legs if ends.get(leg) not in loose + legs]
    shut = [(ends[leg], leg) for leg in legs if ends.get(leg) in loose]
    shut = shut + [(leg, ends[leg]) for leg in legs if ends.get(leg) in legs and leg < ends[leg]]
    # Each wire is a lot of legs that have one bit: first those of legs that are loose now, then the ties that are shut.
    wires = [(leg,) for leg in kept + fresh] + shut
    ahead = sums_of([mask_of(loose, wire) for wire in wires], 0)
    here = sums_of([mask_of(legs, wire) for wire in wires], 0)
    size = 1 << len(shut)
    shifts = [step * many_ones(k) for k in range(size)]
    out = []
    for k in range(0, len(ahead), size):
        out.append(sum([row[i] * table[j] << s for i, j, s in zip(ahead[k:k + size], here[k:k + size], shifts)]))
    return (kept + fresh, out)


def mask_of(legs, wire):
    """What a bit 1 on the wire adds to the number of the bits at the legs."""
    return sum([leg_mask(len(legs), k) for k, leg in enumerate(legs) if leg in wire])
