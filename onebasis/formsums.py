"""Sums of forms over all bits, in few steps."""

from onebasis.errors import BadForm
from onebasis.forms import want_form
from onebasis.normals import skew_of
from onebasis.skews import Skew, beside_skews, closed_skew, mirrored_skew


def paired(form, other):
    """The sum, over all bits, of the products of the worths of both."""
    want_form(form)
    want_form(other)
    if other.prime != form.prime or other.legs != form.legs:
        raise BadForm("other")
    return paired_skews(skew_of(form), skew_of(other))


def paired_skews(skew, other):
    """The same for two skews."""
    both = beside_skews(skew, mirrored_skew(other))
    for leg in reversed(range(len(skew.marks))):
        both = closed_skew(both, leg, 1)
    return both.number


def form_total(form):
    """The sum of the worths at all bits."""
    want_form(form)
    return paired_skews(skew_of(form), parity_skew(form.prime, form.legs, len(form.flips) & 1))


def parity_skew(prime, legs, odd):
    """What is worth 1 at all bits with an even (odd: an odd) number of ones, and 0 elsewhere."""
    # All Pfaffians of a table of ones, ahead of the diagonal, are 1.
    table = [[1 if i < j else 0 if i == j else prime - 1 for j in range(legs)] for i in range(legs)]
    return Skew(prime, 1, [odd if k == 0 else 0 for k in range(legs)], table)
