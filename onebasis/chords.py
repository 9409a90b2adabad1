"""Chords between points on a circle: their rules, and which of them flat gates have."""

from onebasis.checks import MOST_LEGS, are_unlike, is_field_number, is_from, is_list, is_prime, is_tuple_of
from onebasis.errors import BadChords, BadNumber, BadRule
from onebasis.foundforms import form_of
from onebasis.gatemaking import gate_of_form
from onebasis.legwork import leg_mask
from onebasis.rules import Rule


def want_chords(prime, points, chords, sign):
    """Refuses what are no chords of points, with a sign."""
    if not is_prime(prime):
        raise BadRule("prime")
    if not is_from(points, 0, MOST_LEGS):
        raise BadNumber("points")
    if not is_list(chords) or not all([is_chord(prime, points, chord) for chord in chords]):
        raise BadChords("a list of chords of the points is wanted")
    if not are_unlike([(one, other) for one, other, _ in chords]):
        raise BadChords("two chords have the same ends")
    if not is_field_number(prime, sign):
        raise BadNumber("sign")


def is_chord(prime, points, thing):
    """Whether it is a triple of two points, ascending, and a number of the field."""
    if not is_tuple_of(thing, 3) or not all([is_from(x, 0, points - 1) for x in thing[:2]]):
        return False
    return thing[0] < thing[1] and is_field_number(prime, thing[2])


def are_crossing(chord, other):
    """Whether two chords cross."""
    (a, b, _), (c, d, _) = chord, other
    return a < c < b < d or c < a < d < b


def chord_rule(prime, points, chords, sign):
    """The rule with a leg for each point that sums up all sets of chords with unlike ends."""
    want_chords(prime, points, chords, sign)
    lots = [(0, [], 1)]
    for chord in chords:
        mask = leg_mask(points, chord[0]) + leg_mask(points, chord[1])
        fitting = [lot for lot in lots if not lot[0] & mask]
        lots = lots + [with_chord(prime, lot, chord, mask, sign) for lot in fitting]
    table = [0] * (1 << points)
    for mask, _, number in lots:
        table[mask] = (table[mask] + number) % prime
    return Rule(prime, table)


def with_chord(prime, lot, chord, mask, sign):
    """The lot (points met, chords, number) with one chord more."""
    met, chords, number = lot
    number = number * chord[2] % prime
    for other in chords:
        if are_crossing(chord, other):
            number = number * sign % prime
    return (met + mask, chords + [chord], number)


def least_crossing(chords):
    """The least pair of chords that cross, with weights that are not 0; None if there is none."""
    heavy = sorted([tuple(chord) for chord in chords if chord[2]])
    for k, chord in enumerate(heavy):
        for other in heavy[k + 1:]:
            if are_crossing(chord, other):
                return (chord, other)
    return None


def chord_gate(prime, points, chords, sign):
    """A flat gate that has the chords' rule, or two chords that bar it."""
    rule = chord_rule(prime, points, chords, sign)
    crossing = least_crossing(chords)
    if crossing is not None and sign != prime - 1:
        return ("bar", crossing)
    return ("gate", gate_of_form(form_of(rule)))
