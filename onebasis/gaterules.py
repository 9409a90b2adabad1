"""Rules of gates: by going through pairings, and in few steps for flat gates of any size."""

from onebasis.errors import NotFlat, TooMany
from onebasis.gates import is_flat_gate, tie_legs, want_gate
from onebasis.joining import joined_regions, made_course, tied_neighbour
from onebasis.legwork import leg_mask, sums_of
from onebasis.rules import Rule
from onebasis.skews import beside_skews, closed_skew, single_skew, skew_worths, turned_skew
from onebasis.surfaces import other_ends

MOST_PAIRED = 12


def pairing_rule(gate):
    """The gate's rule, by going through its pairings."""
    want_gate(gate)
    if len(gate.places) > MOST_PAIRED:
        raise TooMany(MOST_PAIRED)
    steps = pairing_steps(gate)
    # What has been paired so far is told by the mask of the places that are met and the bits of the outer legs.
    states = {(0, 0): 1}
    for place in range(len(gate.places)):
        states = paired_further(gate.prime, states, place, steps[place])
    table = [0] * (1 << len(gate.outer))
    for met, bits in states:
        table[bits] = states[(met, bits)]
    return Rule(gate.prime, table)


def pairing_steps(gate):
    """For each place: the (mask of places met, bits of outer legs, weight) of all that may meet it first."""
    steps = [[] for _ in gate.places]
    for one, other, weight in gate.ties:
        if one[0] != other[0]:
            # Places are met in their sequence, so a tie is taken at its lesser one.
            steps[one[0]].append(((1 << one[0]) + (1 << other[0]), 0, weight))
    for k, leg in enumerate(gate.outer):
        steps[leg[0]].append((1 << leg[0], leg_mask(len(gate.outer), k), 1))
    return steps


def paired_further(prime, states, place, steps):
    """The states in which this place is met, too."""
    fresh = {}
    for met, bits in states:
        number = states[(met, bits)]
        if met >> place & 1:
            fresh[(met, bits)] = (fresh.get((met, bits), 0) + number) % prime
        else:
            for mask, more, weight in steps:
                if not met & mask:
                    key = (met + mask, bits + more)
                    fresh[key] = (fresh.get(key, 0) + number * weight) % prime
    return fresh


def flat_rule(gate):
    """The rule of a flat gate, worked out tie by tie along a course."""
    want_gate(gate)
    if not is_flat_gate(gate):
        raise NotFlat("the gate is not flat")
    row = [1] * (1 << len(gate.outer))
    for legs, skew in last_bundles(gate):
        masks = [leg_mask(len(legs), legs.index(leg)) if leg in legs else 0 for leg in gate.outer]
        worths = skew_worths(skew)
        row = [number * worths[k] % gate.prime for number, k in zip(row, sums_of(masks, 0))]
    return Rule(gate.prime, row)


def last_bundles(gate):
    """For each piece of a flat gate: the pair of its outer legs and of the skew with these legs that it sums up to."""
    ends = other_ends(tie_legs(gate))
    weights = weights_of(gate)
    bundles = [place_bundle(gate.prime, place, many, ends, weights) for place, many in enumerate(gate.places)]
    course = made_course(len(gate.places), tie_legs(gate))
    joins = joined_regions(len(gate.places), course)[1]
    for (one, other), tie in zip(joins, course):
        bundle = joined_bundle(bundles[one], bundles[other], tie)
        bundles.append(shut_bundle(bundle, ends, weights))
        bundles[one] = bundles[other] = None
    return [bundle for bundle in bundles if bundle is not None]


def weights_of(gate):
    """The dict from each leg in a tie to the weight of the tie."""
    weights = {}
    for one, other, weight in gate.ties:
        weights[one] = weights[other] = weight
    return weights


def place_bundle(prime, place, many, ends, weights):
    """The bundle of one place alone."""
    return shut_bundle(([(place, k) for k in range(many)], single_skew(prime, many)), ends, weights)


def joined_bundle(bundle, further, tie):
    """Both bundles beside one another, with the legs of the tie next to one another."""
    (legs, skew), (more, other) = bundle, further
    first, second = legs.index(tie[0]) + 1, more.index(tie[1])
    ring = legs[first:] + legs[:first] + more[second:] + more[:second]
    return (ring, beside_skews(turned_skew(skew, first), turned_skew(other, second)))


def shut_bundle(bundle, ends, weights):
    """The bundle closed over all ties whose legs come to stand next to one another."""
    legs, skew = bundle
    at = tied_neighbour(legs, ends)
    while at is not None:
        if at == len(legs) - 1:
            legs, skew, at = legs[1:] + legs[:1], turned_skew(skew, 1), at - 1
        skew = closed_skew(skew, at, weights[legs[at]])
        legs = legs[:at] + legs[at + 2:]
        at = tied_neighbour(legs, ends)
    return (legs, skew)
