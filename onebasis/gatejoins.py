"""Gates put beside one another, turned, flipped and tied."""

from onebasis.checks import MOST_LEGS, is_field_number, is_from
from onebasis.errors import BadGate, BadNumber, TooMany
from onebasis.gates import MOST_GATE_PLACES, MOST_GATE_TIES, Gate, want_gate


def want_room(places, ties):
    """Refuses so many places, and so many ties, as no gate has."""
    if places > MOST_GATE_PLACES:
        raise TooMany(MOST_GATE_PLACES)
    if ties > MOST_GATE_TIES:
        raise TooMany(MOST_GATE_TIES)


def moved_leg(leg, many):
    """The leg at the place that is so many further."""
    return (leg[0] + many, leg[1])


def gate_beside(gate, other):
    """The places, ties and outer legs of gate, then those of other."""
    want_gate(gate)
    want_gate(other)
    if other.prime != gate.prime:
        raise BadGate("other")
    if len(gate.outer) + len(other.outer) > MOST_LEGS:
        raise TooMany(MOST_LEGS)
    many = len(gate.places)
    want_room(many + len(other.places), len(gate.ties) + len(other.ties))
    ties = [(moved_leg(one, many), moved_leg(two, many), weight) for one, two, weight in other.ties]
    outer = [moved_leg(leg, many) for leg in other.outer]
    return Gate(gate.prime, gate.places + other.places, list(gate.ties) + ties, list(gate.outer) + outer)


def gate_turned(gate, many):
    """The gate whose outer leg j is outer leg j + many, going round."""
    want_gate(gate)
    if not is_from(many, 0, MOST_LEGS):
        raise BadNumber("many")
    legs = len(gate.outer)
    return Gate(gate.prime, gate.places, gate.ties, [gate.outer[(k + many) % legs] for k in range(legs)])


def gate_flipped(gate, leg):
    """The gate with one more place of two legs between an outer leg and what it was."""
    want_gate(gate)
    if not is_from(leg, 0, len(gate.outer) - 1):
        raise BadNumber("leg")
    place = len(gate.places)
    want_room(place + 1, len(gate.ties) + 1)
    outer = list(gate.outer)
    tie = (outer[leg], (place, 0), 1)
    outer[leg] = (place, 1)
    return Gate(gate.prime, list(gate.places) + [2], list(gate.ties) + [tie], outer)


def gate_tied(gate, leg, number):
    """The gate with an outer leg and the next one tied by a weight."""
    want_gate(gate)
    if not is_from(leg, 0, len(gate.outer) - 2):
        raise BadNumber("leg")
    if not is_field_number(gate.prime, number):
        raise BadNumber("number")
    want_room(len(gate.places), len(gate.ties) + 1)
    outer = list(gate.outer)
    tie = (outer[leg], outer[leg + 1], number)
    return Gate(gate.prime, gate.places, list(gate.ties) + [tie], outer[:leg] + outer[leg + 2:])
