"""Product rules as a number and knots: lots of legs all of whose bits one of them tells.

A knot is a triple of the dict from its legs to their bits, of its worth where they have these bits, and of its worth
where all have the other ones.
"""

from onebasis.fields import inverse_of
from onebasis.products import Product, zero_product


def knots_of(form, names):
    """The knots of a product form whose legs have these names."""
    return [({names[leg]: bit for leg, bit in zip(legs, bits)}, 1, share) for legs, bits, share in form.bunches]


def tied_knots(prime, knots, one, other):
    """The knots with two legs tied, which are legs no more."""
    near = [knot for knot in knots if one in knot[0] or other in knot[0]]
    far = [knot for knot in knots if one not in knot[0] and other not in knot[0]]
    bits, worth, share = near[0]
    if len(near) == 1:
        if bits[one] != bits[other]:
            worth, share = 0, 0
    else:
        more, first, second = near[1]
        ends = (one, other) if one in bits else (other, one)
        turn = bits[ends[0]] ^ more[ends[1]]
        if turn:
            first, second = second, first
        bits = {leg: bits[leg] if leg in bits else more[leg] ^ turn for leg in list(bits) + list(more)}
        worth, share = worth * first % prime, share * second % prime
    return far + [({leg: bits[leg] for leg in bits if leg not in (one, other)}, worth, share)]


def product_of_knots(prime, number, knots, names):
    """The product form of a number and knots; its leg k is the one named names[k]."""
    places = {name: k for k, name in enumerate(names)}
    bunches = []
    for bits, worth, share in knots:
        told = sorted([(places[leg], bit) for leg, bit in bits.items()])
        if not told:
            number = number * (worth + share) % prime
            continue
        # Normal bunches have the worth 1 at their bits: if the first one is 0, or if there is no share.
        if worth == 0 or (share and told[0][1]):
            told = [(leg, 1 - bit) for leg, bit in told]
            worth, share = share, worth
        number = number * worth % prime
        share = share * inverse_of(prime, worth) % prime if worth else 0
        parts = [told] if share else [[pair] for pair in told]
        bunches.extend([(tuple([leg for leg, _ in part]), tuple([bit for _, bit in part]), share) for part in parts])
    return Product(prime, number, sorted(bunches)) if number else zero_product(prime, len(names))
