"""Normal forms: the one form of each rule whose flips are the least bits at which it is not 0."""

from onebasis.errors import BadForm
from onebasis.forms import Form, form_worth, want_form
from onebasis.pfaffians import first_not_zero
from onebasis.skews import Skew, remarked


def skew_of(form):
    """The form as a skew."""
    marks = [1 if k in form.flips else 0 for k in range(form.legs)]
    return Skew(form.prime, form.number, marks, form.table)


def form_of_skew(skew):
    """The skew of at most 60 legs as a form."""
    flips = tuple([k for k, mark in enumerate(skew.marks) if mark])
    return Form(skew.prime, skew.number, flips, skew.table)


def normal_of_skew(skew):
    """The normal form with the worths of the skew."""
    many = len(skew.marks)
    if skew.number == 0:
        return Form(skew.prime, 0, (), [[0] * many for _ in range(many)])
    for leg in range(many):
        if skew.marks[leg]:
            # Changes at later legs alone leave this leg's later numbers 0, or its mark 0.
            other = first_not_zero(skew.table[leg][leg + 1:])
            if other is not None:
                skew = remarked(skew, leg, leg + 1 + other)
    return form_of_skew(skew)


def normal(form):
    """The normal form with the same worths."""
    want_form(form)
    return normal_of_skew(skew_of(form))


def is_normal(form):
    """Whether the form is normal."""
    want_form(form)
    if form.number == 0:
        return form.flips == () and not any([any(row) for row in form.table])
    return not any([any(form.table[leg][leg + 1:]) for leg in form.flips])


def rebased(form, bits):
    """The form with the same worths whose flips are the legs with bit 1."""
    # What is no form, and what are no bits for it, is refused where the worth is asked for.
    if form_worth(form, bits) == 0:
        raise BadForm("base")
    skew = skew_of(form)
    for leg, bit in enumerate(bits):
        if bit != skew.marks[leg]:
            # The worth at bits is not 0, so some other leg with a wrong mark is led to.
            row = [x if bits[k] != skew.marks[k] else 0 for k, x in enumerate(skew.table[leg])]
            skew = remarked(skew, leg, first_not_zero(row))
    return form_of_skew(skew)
