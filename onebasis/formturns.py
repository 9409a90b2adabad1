"""Forms turned, mirrored, flipped, scaled, and with a leg set: normal forms of what is done to their rules."""

from onebasis.checks import is_bit, is_field_number, is_from
from onebasis.errors import BadNumber
from onebasis.forms import MOST_FORM_LEGS, want_form
from onebasis.normals import normal_of_skew, skew_of
from onebasis.skews import Skew, mirrored_skew, set_skew_leg, turned_skew


def want_form_leg(form, leg, part):
    """Refuses what is no leg of the form."""
    if not is_from(leg, 0, form.legs - 1):
        raise BadNumber(part)


def turned_form(form, many):
    """The form whose leg j is the form's leg j + many, going round."""
    want_form(form)
    if not is_from(many, 0, MOST_FORM_LEGS):
        raise BadNumber("many")
    return normal_of_skew(turned_skew(skew_of(form), many % max(form.legs, 1)))


def mirrored_form(form):
    """The form with its legs in the reverse sequence."""
    want_form(form)
    return normal_of_skew(mirrored_skew(skew_of(form)))


def flipped_form(form, leg):
    """The form with the other bit at a leg."""
    want_form(form)
    want_form_leg(form, leg, "leg")
    skew = skew_of(form)
    marks = [1 - mark if k == leg else mark for k, mark in enumerate(skew.marks)]
    return normal_of_skew(Skew(skew.prime, skew.number, marks, skew.table))


def scaled_form(form, number):
    """The form with all worths times the number."""
    want_form(form)
    if not is_field_number(form.prime, number):
        raise BadNumber("number")
    skew = skew_of(form)
    return normal_of_skew(Skew(skew.prime, skew.number * number % skew.prime, skew.marks, skew.table))


def set_form_leg(form, leg, bit):
    """The form without a leg, which has this bit."""
    want_form(form)
    want_form_leg(form, leg, "leg")
    if not is_bit(bit):
        raise BadNumber("bit")
    return normal_of_skew(set_skew_leg(skew_of(form), leg, bit))
