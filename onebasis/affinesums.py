"""Sums of webs of affine rules."""

from onebasis.errors import NotAffine
from onebasis.foundaffine import affine_form
from onebasis.phases import Phase, affine_of, close_legs, put_in
from onebasis.webs import want_web


def affine_forms(web):
    """The affine forms of all rules; refuses a web with a rule that is not affine."""
    forms = [affine_form(rule) for rule in web.rules]
    for place, form in enumerate(forms):
        if form is None:
            raise NotAffine(place)
    return forms


def affine_phase(prime, forms):
    """The phase of all these forms of rules of a web beside one another, each leg under its pair (place, leg)."""
    phase = Phase(prime)
    for place, form in enumerate(forms):
        put_in(phase, form, [(place, k) for k in range(form.legs)])
    return phase


def affine_sum(web):
    """The affine form of the sum of a web of affine rules."""
    want_web(web)
    phase = affine_phase(web.prime, affine_forms(web))
    for one, other in web.ties:
        close_legs(phase, one, other)
    return affine_of(phase, list(web.outer))
