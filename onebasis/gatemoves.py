"""Moves that make gates smaller, and squares of gates renewed.

A gate is made anew from its spots: for each place the list of its legs, each told by any name it had before.
"""

from onebasis.checks import is_leg, is_number
from onebasis.errors import BadMove, BadNumber, NoSquare
from onebasis.fields import inverse_of
from onebasis.gatejoins import want_room
from onebasis.gates import Gate, tie_legs, want_gate
from onebasis.legwork import behind, numbering, spots_of
from onebasis.surfaces import counts_outside, face_from, other_ends, strands_of

MOST_CONTRACTED = 10


def gate_of_spots(gate, spots, ties):
    """The gate with the legs in these spots, these ties between them, and the outer legs of the gate."""
    now = numbering(spots)
    fresh = [(now[one], now[other], weight) for one, other, weight in ties]
    return Gate(gate.prime, [len(spot) for spot in spots], fresh, [now[leg] for leg in gate.outer])


def ties_by_leg(gate):
    """The dict from each leg in a tie to the pair of the other leg and the weight."""
    found = {}
    for one, other, weight in gate.ties:
        found[one] = (other, weight)
        found[other] = (one, weight)
    return found


def moves_of(gate):
    """The ascending list of the moves."""
    want_gate(gate)
    ties = ties_by_leg(gate)
    held = {place: True for place, _ in gate.outer}
    every = range(len(gate.places))
    contracts = [("contract", place) for place in every if is_contracted(gate, ties, held, place)]
    drops = [("drop", k) for k, tie in enumerate(gate.ties) if tie[2] == 0 or tie[0][0] == tie[1][0]]
    forces = [("force", place) for place in every if is_forced(gate, ties, held, place)]
    return contracts + drops + forces + merges_of(gate)


def is_contracted(gate, ties, held, place):
    """Whether the place has just two legs, tied to two others without outer legs that are not too great."""
    if gate.places[place] != 2 or place in held:
        return False
    x, y = [ties[(place, k)][0][0] for k in range(2)]
    if x in (place, y) or x in held or y in held:
        return False
    return gate.places[x] + gate.places[y] <= MOST_CONTRACTED


def is_forced(gate, ties, held, place):
    """Whether the place has just one leg, tied to another place without outer legs."""
    return gate.places[place] == 1 and place not in held and ties[(place, 0)][0][0] not in held


def merges_of(gate):
    """The moves that merge two ties between the same two places."""
    places = [sorted([one[0], other[0]]) for one, other, _ in gate.ties]
    found = []
    for k, pair in enumerate(places):
        if pair[0] != pair[1]:
            found.extend([("merge", k, j) for j in range(k + 1, len(places)) if places[j] == pair])
    return found


def moved(gate, move):
    """The pair of the number and the gate to which a move leads."""
    want_gate(gate)
    if not is_move(move) or move not in moves_of(gate):
        raise BadMove("a move of the gate is wanted")
    step = STEPS[move[0]]
    parts = move[1:]
    return step(gate, *parts)


def is_move(thing):
    """Whether it is a tuple of numbers behind its first thing, as moves are."""
    return isinstance(thing, tuple) and all([is_number(x) for x in thing[1:]])


def settled(gate):
    """The pair of the number and the gate to which first moves lead until there is none."""
    want_gate(gate)
    number = 1
    moves = moves_of(gate)
    while moves:
        more, gate = moved(gate, moves[0])
        number = number * more % gate.prime
        moves = moves_of(gate)
    return (number, gate)


def contract(gate, place):
    """The place, and the two to which its legs are tied, as one place."""
    ties = ties_by_leg(gate)
    (at_x, u), (at_y, v) = ties[(place, 0)], ties[(place, 1)]
    gone = (place, at_x[0], at_y[0])
    spots = spots_of(gate.places)
    fresh = spot_behind(spots, at_x) + spot_behind(spots, at_y)
    spots = [spot for k, spot in enumerate(spots) if k not in gone] + [fresh]
    factors = {at_x[0]: v, at_y[0]: u}
    kept = []
    for one, other, weight in gate.ties:
        if place not in (one[0], other[0]):
            more = factors.get(one[0], 1) * factors.get(other[0], 1)
            kept.append((one, other, weight * more % gate.prime))
    return (1, gate_of_spots(gate, spots, kept))


def spot_behind(spots, leg):
    """The other legs of the leg's spot, going round from behind it."""
    spot = spots[leg[0]]
    return [spot[k] for k in behind(len(spot), leg[1])]


def drop(gate, tie):
    """The gate without a tie and its legs."""
    return (1, without_ties(gate, [tie], gate.ties, ()))


def without_ties(gate, gone, ties, places):
    """The gate with these ties, but without those of the numbers gone and their legs, and without the places."""
    legs = {leg: True for k in gone for leg in ties[k][:2]}
    spots = [[leg for leg in spot if leg not in legs] for spot in spots_of(gate.places)]
    spots = [spot for place, spot in enumerate(spots) if place not in places]
    return gate_of_spots(gate, spots, [tie for k, tie in enumerate(ties) if k not in gone])


def force(gate, place):
    """The gate without the place and the one that it is tied to."""
    leg, weight = ties_by_leg(gate)[(place, 0)]
    places = (place, leg[0])
    gone = [k for k, (one, other, _) in enumerate(gate.ties) if one[0] in places or other[0] in places]
    return (weight, without_ties(gate, gone, gate.ties, places))


def merge(gate, tie, other):
    """The gate with the sum of both weights at the first tie, without the second one."""
    ties = list(gate.ties)
    one, two, weight = ties[tie]
    ties[tie] = (one, two, (weight + ties[other][2]) % gate.prime)
    return (1, without_ties(gate, [other], ties, ()))


def renewed(gate, leg):
    """The pair of a number and the gate in which the square of the leg's face is renewed."""
    want_gate(gate)
    ties = ties_by_leg(gate)
    if not is_leg(leg, gate.places) or leg not in ties:
        raise BadNumber("leg")
    face = square_of(gate, leg)
    p, q, r, s = [ties[at][1] for at in face]
    number = (p * r + q * s) % gate.prime
    if number == 0:
        raise NoSquare("the weights of the square make 0")
    want_room(len(gate.places) + 4, len(gate.ties) + 4)
    inverse = inverse_of(gate.prime, number)
    weights = [x * inverse % gate.prime for x in (r, s, p, q)]
    return (number, renewed_gate(gate, face, weights))


def square_of(gate, leg):
    """The four legs of the leg's face, at four unlike places."""
    strands = strands_of(gate.places, tie_legs(gate), gate.outer)
    face = face_from(leg, other_ends(strands), counts_outside(gate.places, gate.outer))
    places = [place for place, _ in face]
    if len(face) != 4 or len(set(places)) != 4 or len(gate.places) in places:
        raise NoSquare("the face is no square of four places")
    return face


def renewed_gate(gate, face, weights):
    """The gate with four places of three legs in the place of the ties of the face."""
    many = len(gate.places)
    spots = spots_of(gate.places)
    for leg in face:
        # The last of the legs behind is the one ahead, which goes; the leg itself comes behind the others.
        spots[leg[0]] = spot_behind(spots, leg)[:-1] + [leg]
    spots = spots + [[(many + k, j) for j in range(3)] for k in range(4)]
    fresh = [(leg, (many + k, 0), 1) for k, leg in enumerate(face)]
    fresh = fresh + [((many + k, 2), (many + (k + 1) % 4, 1), weight) for k, weight in enumerate(weights)]
    kept = [tie for tie in gate.ties if tie[0] not in face and tie[1] not in face]
    return gate_of_spots(gate, spots, kept + fresh)


STEPS = {"contract": contract, "drop": drop, "force": force, "merge": merge}
