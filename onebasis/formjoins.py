"""Forms put beside one another, closed over neighbouring legs, and joined: normal forms of these rules."""

from onebasis.errors import BadForm, BadNumber, TooMany
from onebasis.forms import MOST_FORM_LEGS, want_form
from onebasis.formturns import want_form_leg
from onebasis.normals import normal_of_skew, skew_of
from onebasis.skews import beside_skews, closed_skew, turned_skew


def want_form_room(legs):
    """Refuses more legs than a form has."""
    if legs > MOST_FORM_LEGS:
        raise TooMany(MOST_FORM_LEGS)


def beside_forms(form, other):
    """The form with the legs of both, whose worth is the product of theirs."""
    want_form(form)
    want_form(other)
    if other.prime != form.prime:
        raise BadForm("other")
    want_form_room(form.legs + other.legs)
    return normal_of_skew(beside_skews(skew_of(form), skew_of(other)))


def closed_form(form, leg):
    """The form without a leg and the next one round, summed over the bits 0 and 1 that both have."""
    want_form(form)
    want_form_leg(form, leg, "leg")
    if form.legs < 2:
        raise BadNumber("leg")
    skew = skew_of(form)
    if leg == form.legs - 1:
        return normal_of_skew(closed_skew(turned_skew(skew, 1), leg - 1, 1))
    return normal_of_skew(closed_skew(skew, leg, 1))


def joined_forms(form, leg, other, place):
    """Both forms closed over the tie of leg and place; their legs going round from behind these."""
    want_form(form)
    want_form(other)
    want_form_leg(form, leg, "leg")
    if other.prime != form.prime:
        raise BadForm("other")
    want_form_leg(other, place, "place")
    want_form_room(form.legs + other.legs - 2)
    skew = beside_skews(turned_skew(skew_of(form), leg + 1), turned_skew(skew_of(other), place))
    return normal_of_skew(closed_skew(skew, form.legs - 1, 1))
