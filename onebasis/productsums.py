"""Product forms beside one another and closed, and sums of webs of product rules."""

from onebasis.errors import BadProduct, NotProduct, TooMany
from onebasis.foundproducts import product_form
from onebasis.knots import knots_of, product_of_knots, tied_knots
from onebasis.products import MOST_PRODUCT_LEGS, want_product
from onebasis.rules import want_two_legs
from onebasis.webs import want_web


def product_beside(form, other):
    """The product form with the legs of both, whose worth is the product of theirs."""
    want_product(form)
    want_product(other)
    if other.prime != form.prime:
        raise BadProduct("other")
    many = form.legs + other.legs
    if many > MOST_PRODUCT_LEGS:
        raise TooMany(MOST_PRODUCT_LEGS)
    knots = knots_of(form, list(range(form.legs))) + knots_of(other, list(range(form.legs, many)))
    return product_of_knots(form.prime, form.number * other.number % form.prime, knots, list(range(many)))


def product_closed(form, leg, other):
    """The product form without two legs, summed over the bits 0 and 1 that both have."""
    want_product(form)
    want_two_legs(form, leg, other)
    knots = tied_knots(form.prime, knots_of(form, list(range(form.legs))), leg, other)
    names = [k for k in range(form.legs) if k not in (leg, other)]
    return product_of_knots(form.prime, form.number, knots, names)


def product_forms(web):
    """The product forms of all rules; refuses a web with a rule that is no product rule."""
    forms = [product_form(rule) for rule in web.rules]
    for place, form in enumerate(forms):
        if form is None:
            raise NotProduct(place)
    return forms


def product_sum(web):
    """The product form of the sum of a web of product rules."""
    want_web(web)
    number, knots = 1, []
    for place, form in enumerate(product_forms(web)):
        number = number * form.number % web.prime
        knots = knots + knots_of(form, [(place, k) for k in range(form.legs)])
    for one, other in web.ties:
        knots = tied_knots(web.prime, knots, one, other)
    return product_of_knots(web.prime, number, knots, list(web.outer))
