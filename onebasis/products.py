"""Product forms: a number, and bunches of legs that are alike or unlike one another."""

from onebasis.checks import MOST_LEGS, are_ascending, are_bits, is_field_number, is_list, is_prime, is_tuple_of
from onebasis.errors import BadBits, BadProduct, TooMany
from onebasis.legwork import bits_of
from onebasis.rules import Rule

MOST_PRODUCT_LEGS = 60


class Product:
    """A number and bunches of legs, each with bits and a share, over the field of a prime."""

    def __init__(self, prime, number, bunches):
        if not is_prime(prime):
            raise BadProduct("prime")
        if not is_field_number(prime, number):
            raise BadProduct("number")
        if not are_bunches(prime, number, bunches):
            raise BadProduct("bunches")
        self.prime = prime
        self.legs = sum([len(legs) for legs, _, _ in bunches])
        self.number = number
        self.bunches = tuple(bunches)

    def __eq__(self, other):
        if not isinstance(other, Product) or self.prime != other.prime:
            return False
        return self.number == other.number and self.bunches == other.bunches


def are_bunches(prime, number, things):
    """Whether it is an ascending list of bunches, with just the legs from 0 on, each in one of them."""
    if not is_list(things) or not all([is_bunch(prime, thing) for thing in things]):
        return False
    firsts = [legs[0] for legs, _, _ in things]
    if not all([firsts[k] < firsts[k + 1] for k in range(len(firsts) - 1)]):
        return False
    every = sorted([leg for legs, _, _ in things for leg in legs])
    if every != list(range(len(every))) or len(every) > MOST_PRODUCT_LEGS:
        return False
    return number != 0 or all([thing == (thing[0][:1], (0,), 0) for thing in things])


def is_bunch(prime, thing):
    """Whether it is a triple of ascending legs, as many bits and a share."""
    if not is_tuple_of(thing, 3) or not isinstance(thing[0], tuple) or not is_field_number(prime, thing[2]):
        return False
    legs, bits, share = thing
    if len(legs) == 0 or not are_ascending(legs, MOST_PRODUCT_LEGS - 1) or not are_bits(bits, len(legs)):
        return False
    return bits[0] == 0 if share else len(legs) == 1


def want_product(form):
    """Refuses what is no Product."""
    if not isinstance(form, Product):
        raise BadProduct(None)


def zero_product(prime, legs):
    """The product form that is 0 at all bits."""
    return Product(prime, 0, [((leg,), (0,), 0) for leg in range(legs)])


def product_worth(form, bits):
    """The number of the product form at a tuple of bits."""
    want_product(form)
    if not are_bits(bits, form.legs):
        raise BadBits("as many bits as legs are wanted")
    number = form.number
    for legs, own, share in form.bunches:
        unlike = sum([bits[leg] ^ bit for leg, bit in zip(legs, own)])
        if unlike == len(legs):
            number = number * share % form.prime
        elif unlike:
            number = 0
    return number


def product_rule(form):
    """The rule with the worths of the product form."""
    want_product(form)
    if form.legs > MOST_LEGS:
        raise TooMany(MOST_LEGS)
    return Rule(form.prime, [product_worth(form, bits_of(k, form.legs)) for k in range(1 << form.legs)])
