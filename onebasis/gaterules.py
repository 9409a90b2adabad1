"""Rules of gates: by going through pairings, and in few steps for flat gates of any size."""

from onebasis.bundles import last_bundles, outer_row
from onebasis.errors import NotFlat, TooMany
from onebasis.gates import is_flat_gate, tie_legs, want_gate
from onebasis.legwork import leg_mask
from onebasis.rules import Rule
from onebasis.skews import single_skew

MOST_PAIRED = 12


def pairing_rule(gate):
    """The gate's rule, by going through its pairings."""
    want_gate(gate)
    if len(gate.places) > MOST_PAIRED:
        raise TooMany(MOST_PAIRED)
    steps = pairing_steps(gate)
    # What has been paired so far is told by the mask of the places that are met and the bits of the outer legs.
    states = {(0, 0): 1}
    for place in range(len(gate.places)):
        states = paired_further(gate.prime, states, place, steps[place])
    table = [0] * (1 << len(gate.outer))
    for met, bits in states:
        table[bits] = states[(met, bits)]
    return Rule(gate.prime, table)


def pairing_steps(gate):
    """For each place: the (mask of places met, bits of outer legs, weight) of all that may meet it first."""
    steps = [[] for _ in gate.places]
    for one, other, weight in gate.ties:
        if one[0] != other[0]:
            # Places are met in their sequence, so a tie is taken at its lesser one.
            steps[one[0]].append(((1 << one[0]) + (1 << other[0]), 0, weight))
    for k, leg in enumerate(gate.outer):
        steps[leg[0]].append((1 << leg[0], leg_mask(len(gate.outer), k), 1))
    return steps


def paired_further(prime, states, place, steps):
    """The states in which this place is met, too."""
    fresh = {}
    for met, bits in states:
        number = states[(met, bits)]
        if met >> place & 1:
            fresh[(met, bits)] = (fresh.get((met, bits), 0) + number) % prime
        else:
            for mask, more, weight in steps:
                if not met & mask:
                    key = (met + mask, bits + more)
                    fresh[key] = (fresh.get(key, 0) + number * weight) % prime
    return fresh


def flat_rule(gate):
    """The rule of a flat gate, worked out tie by tie along a course."""
    want_gate(gate)
    if not is_flat_gate(gate):
        raise NotFlat("the gate is not flat")
    bundles = []
    for place, many in enumerate(gate.places):
        bundles.append(([(place, k) for k in range(many)], single_skew(gate.prime, many)))
    bundles = last_bundles(bundles, tie_legs(gate), weights_of(gate))
    return Rule(gate.prime, outer_row(gate.prime, bundles, gate.outer))


def weights_of(gate):
    """The dict from each leg in a tie to the weight of the tie."""
    weights = {}
    for one, other, weight in gate.ties:
        weights[one] = weights[other] = weight
    return weights
