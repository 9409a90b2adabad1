"""Gates: places with legs, ties with weights, and outer legs; their rules sum up pairings."""

from onebasis.checks import MOST_LEGS, MOST_PLACES, MOST_TIES, are_free_legs, are_unlike, is_field_number, is_from
from onebasis.checks import is_leg, is_list, is_prime, is_tuple_of
from onebasis.errors import BadGate, TooMany
from onebasis.legwork import leg_mask
from onebasis.rules import Rule
from onebasis.surfaces import is_flat_surface
from onebasis.webs import Web

MOST_GATE_PLACES = 240
MOST_GATE_TIES = 400


class Gate:
    """A gate over the field of a prime."""

    def __init__(self, prime, places, ties, outer):
        if not is_prime(prime):
            raise BadGate("prime")
        if not are_leg_counts(places):
            raise BadGate("places")
        if not are_weighted_ties(prime, places, ties):
            raise BadGate("ties")
        if not are_free_legs(outer, places, [leg for tie in ties for leg in tie[:2]]):
            raise BadGate("outer")
        self.prime = prime
        self.places = tuple(places)
        self.ties = tuple(sorted([lesser_first(tie) for tie in ties]))
        self.outer = tuple(outer)

    def __eq__(self, other):
        if not isinstance(other, Gate) or self.prime != other.prime or self.places != other.places:
            return False
        return self.ties == other.ties and self.outer == other.outer


def are_leg_counts(things):
    """Whether it is a list of how many legs places have, within the limits."""
    if not is_list(things) or len(things) > MOST_GATE_PLACES:
        return False
    return all([is_from(x, 0, MOST_LEGS) for x in things])


def are_weighted_ties(prime, places, things):
    """Whether it is a list of triples of two legs and a weight, all legs unlike, within the limits."""
    if not is_list(things) or len(things) > MOST_GATE_TIES or not all([is_tuple_of(x, 3) for x in things]):
        return False
    legs = [leg for tie in things for leg in tie[:2]]
    if not all([is_leg(leg, places) for leg in legs]) or not are_unlike(legs):
        return False
    return all([is_field_number(prime, weight) for _, _, weight in things])


def lesser_first(tie):
    """The tie with its lesser leg first."""
    one, other, weight = tie
    return (min(one, other), max(one, other), weight)


def want_gate(gate):
    """Refuses what is no Gate."""
    if not isinstance(gate, Gate):
        raise BadGate(None)


def tie_legs(gate):
    """The pairs of the legs of all ties."""
    return [(one, other) for one, other, _ in gate.ties]


def gate_web(gate):
    """The web whose sum is the gate's rule."""
    want_gate(gate)
    if len(gate.places) > MOST_PLACES:
        raise TooMany(MOST_PLACES)
    if len(gate.ties) > MOST_TIES:
        raise TooMany(MOST_TIES)
    weights = {one: weight for one, _, weight in gate.ties}
    rules = [place_rule(gate, weights, place) for place in range(len(gate.places))]
    return Web(gate.prime, rules, tie_legs(gate), gate.outer)


def place_rule(gate, weights, place):
    """The rule that is not 0 only at just one 1: there the weight told for this leg, 1 where none is told."""
    many = gate.places[place]
    table = [0] * (1 << many)
    for k in range(many):
        table[leg_mask(many, k)] = weights.get((place, k), 1)
    return Rule(gate.prime, table)


def is_flat_gate(gate):
    """Whether the gate is flat."""
    want_gate(gate)
    return is_flat_surface(gate.places, tie_legs(gate), gate.outer)
