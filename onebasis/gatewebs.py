"""One flat gate for a whole flat web of rules that keep all identities."""

from onebasis.errors import BadWeb, NotFlat, TooMany
from onebasis.foundforms import form_of
from onebasis.gatejoins import moved_leg
from onebasis.gatemaking import gate_of_form
from onebasis.gates import Gate
from onebasis.webs import is_flat, want_web

MOST_SQUARES = 64


def web_gate(web):
    """A flat gate whose rule is the sum of the web."""
    want_web(web)
    if not is_flat(web):
        raise NotFlat("the web is not flat")
    forms = [form_of(rule) for rule in web.rules]
    if any([form is None for form in forms]):
        raise BadWeb("rules")
    # What gates of forms need fits into one gate up to this many.
    if sum([max(1, rule.legs * rule.legs) for rule in web.rules]) > MOST_SQUARES:
        raise TooMany(MOST_SQUARES)
    places, ties, outers = [], [], []
    for form in forms:
        gate = gate_of_form(form)
        many = len(places)
        outers.append([moved_leg(leg, many) for leg in gate.outer])
        ties = ties + [(moved_leg(one, many), moved_leg(two, many), weight) for one, two, weight in gate.ties]
        places.extend(gate.places)
    ties = ties + [(outers[p][k], outers[q][j], 1) for (p, k), (q, j) in web.ties]
    return Gate(web.prime, places, ties, [outers[p][k] for p, k in web.outer])
