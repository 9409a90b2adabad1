"""The product form of a rule, if it has one, and papers that it has none."""

from onebasis.checks import are_ascending, are_bits, is_tuple_of
from onebasis.fields import inverse_of
from onebasis.foundaffine import space_of
from onebasis.knots import product_of_knots
from onebasis.legwork import bits_number, bits_of, leg_mask
from onebasis.products import product_rule, zero_product
from onebasis.rules import want_rule


def bits_along(rule, space):
    """For each leg the tuple of the bits that it has at the numbers of the space."""
    return [tuple([1 if k & leg_mask(rule.legs, leg) else 0 for k in space]) for leg in range(rule.legs)]


def bunches_together(along):
    """The ascending tuples of the legs that are together, for what bits_along tells."""
    lots = {}
    for leg, bits in enumerate(along):
        if 0 in bits and 1 in bits:
            key = bits if bits[0] == 0 else tuple([1 - bit for bit in bits])
            lots.setdefault(key, []).append(leg)
    return [tuple(legs) for legs in lots.values()]


def bunch_mask(rule, legs):
    """What a bit 1 at each of these legs adds to the number of the bits."""
    return sum([leg_mask(rule.legs, leg) for leg in legs])


def product_form(rule):
    """The Product with the rule's worths; None if there is none."""
    want_rule(rule)
    space = space_of(rule)
    if not space:
        return zero_product(rule.prime, rule.legs)
    base, along = space[0], bits_along(rule, space)
    together = bunches_together(along)
    held = {leg: True for legs in together for leg in legs}
    knots = [({leg: along[leg][0]}, 1, 0) for leg in range(rule.legs) if leg not in held]
    inverse = inverse_of(rule.prime, rule.table[base])
    for legs in together:
        share = rule.table[base ^ bunch_mask(rule, legs)] * inverse % rule.prime
        knots.append(({leg: along[leg][0] for leg in legs}, 1, share))
    form = product_of_knots(rule.prime, rule.table[base], knots, list(range(rule.legs)))
    return form if product_rule(form) == rule else None


def is_product_rule(rule):
    """Whether the rule is a product rule."""
    return product_form(rule) is not None


def is_unlike_exchanged(rule, mask, a, b):
    """Whether the worths at both make another product than at both with the bits of the mask exchanged."""
    turned_bits = (a ^ b) & mask
    table = rule.table
    return (table[a] * table[b] - table[a ^ turned_bits] * table[b ^ turned_bits]) % rule.prime != 0


def not_product(rule):
    """A paper that the rule is no product rule; None if it is one."""
    want_rule(rule)
    space = space_of(rule)
    for legs in bunches_together(bits_along(rule, space)):
        mask = bunch_mask(rule, legs)
        for b in range(len(rule.table)):
            if is_unlike_exchanged(rule, mask, space[0], b):
                # At either both or both exchanged the rule is not 0, or both products would be.
                turned_bits = 0 if rule.table[b] else (space[0] ^ b) & mask
                return (legs, bits_of(space[0] ^ turned_bits, rule.legs), bits_of(b ^ turned_bits, rule.legs))
    return None


def is_against_product(rule, paper):
    """Whether any value is a paper that the rule is no product rule."""
    want_rule(rule)
    if not is_tuple_of(paper, 3) or not all([are_bits(bits, rule.legs) for bits in paper[1:]]):
        return False
    legs = paper[0]
    if not isinstance(legs, tuple) or not are_ascending(legs, rule.legs - 1):
        return False
    a, b = [bits_number(bits) for bits in paper[1:]]
    if rule.table[a] == 0 or rule.table[b] == 0:
        return False
    if legs not in bunches_together(bits_along(rule, space_of(rule))):
        return False
    return is_unlike_exchanged(rule, bunch_mask(rule, legs), a, b)
