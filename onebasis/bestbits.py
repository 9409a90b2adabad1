"""The bits of greatest weight at which a form is not 0."""

from onebasis.checks import is_from, is_list
from onebasis.errors import BadNumber
from onebasis.forms import want_form
from onebasis.normals import skew_of
from onebasis.pfaffians import first_not_zero
from onebasis.skews import remarked

GREATEST_WEIGHT = 1000


def best_bits(form, weights):
    """The tuple of bits with the greatest weight of the ones at which the worth is not 0; of several the least."""
    want_form(form)
    if not is_list(weights) or len(weights) != form.legs:
        raise BadNumber("weights")
    if not all([is_from(x, -GREATEST_WEIGHT, GREATEST_WEIGHT) for x in weights]):
        raise BadNumber("weights")
    if form.number == 0:
        return None
    skew = skew_of(form)
    settled = {}
    for leg in legs_by_weight(weights):
        settled[leg] = True
        # A weight of 0 counts as less than 0, so that of several tuples the least one is found.
        if skew.marks[leg] != (1 if weights[leg] > 0 else 0):
            other = first_not_zero([0 if k in settled else x for k, x in enumerate(skew.table[leg])])
            if other is not None:
                skew = remarked(skew, min(leg, other), max(leg, other))
    return tuple(skew.marks)


def legs_by_weight(weights):
    """The legs, the one of the greatest weight first, each weight being less by a little that halves leg by leg."""
    many = len(weights)
    exact = [(weight << (many + 1)) - (1 << (many - k)) for k, weight in enumerate(weights)]
    return sorted(range(many), key=lambda leg: -abs(exact[leg]))
