"""Affine forms beside one another, closed, and with legs set, for any number of legs."""

from onebasis.affine import MOST_AFFINE_LEGS, want_affine
from onebasis.checks import is_bit
from onebasis.errors import BadAffine, BadNumber, TooMany
from onebasis.phases import Phase, affine_of, close_legs, put_in, restrict
from onebasis.rules import want_leg, want_two_legs


def phase_of_form(form):
    """The phase of an affine form, its legs under their numbers."""
    phase = Phase(form.prime)
    put_in(phase, form, list(range(form.legs)))
    return phase


def affine_beside(form, other):
    """The affine form with the legs of both, whose worth is the product of theirs."""
    want_affine(form)
    want_affine(other)
    if other.prime != form.prime:
        raise BadAffine("other")
    many = form.legs + other.legs
    if many > MOST_AFFINE_LEGS:
        raise TooMany(MOST_AFFINE_LEGS)
    phase = phase_of_form(form)
    put_in(phase, other, list(range(form.legs, many)))
    return affine_of(phase, list(range(many)))


def affine_closed(form, leg, other):
    """The affine form without two legs, summed over the bits 0 and 1 that both have."""
    want_affine(form)
    want_two_legs(form, leg, other)
    phase = phase_of_form(form)
    close_legs(phase, leg, other)
    return affine_of(phase, [k for k in range(form.legs) if k not in (leg, other)])


def affine_set(form, leg, bit):
    """The affine form without a leg, which has this bit."""
    want_affine(form)
    want_leg(form, leg, "leg")
    if not is_bit(bit):
        raise BadNumber("bit")
    phase = phase_of_form(form)
    own, mask = phase.legs[leg]
    restrict(phase, own ^ bit, mask)
    del phase.legs[leg]
    return affine_of(phase, [k for k in range(form.legs) if k != leg])
