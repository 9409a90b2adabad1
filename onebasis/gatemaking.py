"""Flat gates made from the forms of rules: lines that cross one another, two by two."""

from onebasis.foundforms import form_of
from onebasis.gates import Gate
from onebasis.identities import least_broken
from onebasis.rules import want_rule


class Lines:
    """A gate while it is made: its places and ties, the outer legs, and the leg each line has come to."""

    def __init__(self, many):
        self.places = []
        self.ties = []
        self.outer = [None] * many
        self.loose = [None] * many


def gate_or_bar(rule):
    """A flat gate that has the rule, or an identity that the rule does not keep."""
    want_rule(rule)
    form = form_of(rule)
    if form is None:
        return ("bar", least_broken(rule))
    return ("gate", gate_of_form(form))


def gate_of_form(form):
    """The flat gate of lines, one for each leg, each of which crosses all later ones and ends behind them."""
    lines = Lines(form.legs)
    for leg in range(form.legs):
        if leg not in form.flips:
            spot = new_spot(lines, 2)
            lead_to(lines, leg, (spot, 0))
            lines.loose[leg] = (spot, 1)
    for one in range(form.legs):
        for other in range(one + 1, form.legs):
            cross(lines, form.prime, one, other, form.table[one][other])
        lead_to(lines, one, (new_spot(lines, 1), 0))
    lines.ties.append(((new_spot(lines, 1), 0), (new_spot(lines, 1), 0), form.number))
    return Gate(form.prime, lines.places, lines.ties, lines.outer)


def new_spot(lines, legs):
    """Puts in a place with so many legs; the number of this place."""
    lines.places.append(legs)
    return len(lines.places) - 1


def lead_to(lines, line, leg):
    """Leads a line on to this leg, which is the outer leg of a line that has come to none yet."""
    if lines.loose[line] is None:
        lines.outer[line] = leg
    else:
        lines.ties.append((lines.loose[line], leg, 1))


def cross(lines, prime, one, other, weight):
    """Lets a line cross the next one to its right: bit 1 says that it is spent, and both are spent by the weight.

    Below stand a and b, above them d and c, between them e below f; their legs go round counterclockwise.
    """
    a, b, c, d, e, f = [new_spot(lines, legs) for legs in (4, 4, 3, 3, 3, 3)]
    lead_to(lines, one, (a, 0))
    lead_to(lines, other, (b, 3))
    lines.ties.extend([((a, 1), (b, 2), weight), ((a, 2), (e, 1), 1), ((b, 1), (e, 2), 1), ((e, 0), (f, 2), 1)])
    # These signs make lines that cross unspent count as -1, and let nothing else stand for a crossing.
    lines.ties.extend([((a, 3), (d, 1), prime - 1), ((b, 0), (c, 2), prime - 1)])
    lines.ties.extend([((c, 1), (f, 0), 1), ((d, 2), (f, 1), 1)])
    lines.loose[one], lines.loose[other] = (c, 0), (d, 0)
