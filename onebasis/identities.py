"""Matchgate identities: sums over a rule's worths that are 0 exactly if the rule has a form."""

from itertools import combinations

from onebasis.checks import are_ascending, are_bits
from onebasis.errors import BadBits, BadNumber
from onebasis.legwork import bits_number, bits_of, leg_mask
from onebasis.rules import want_rule


def identity(rule, bits, legs):
    """The sum that the identity at these bits and legs says is 0."""
    want_rule(rule)
    if not are_bits(bits, rule.legs):
        raise BadBits("as many bits as legs are wanted")
    if not isinstance(legs, tuple) or len(legs) == 0 or not are_ascending(legs, rule.legs - 1):
        raise BadNumber("legs")
    return identity_sum(rule, bits_number(bits), masks_of(rule, legs))


def masks_of(rule, legs):
    """What a bit 1 at each of the legs adds to the number of the bits."""
    return [leg_mask(rule.legs, leg) for leg in legs]


def identity_sum(rule, number, masks):
    """The sum of the identity at the bits with this number and the legs of these masks."""
    turned_all = number ^ sum(masks)
    total = 0
    sign = -1
    for mask in masks:
        total += sign * rule.table[number ^ mask] * rule.table[turned_all ^ mask]
        sign = -sign
    return total % rule.prime


def least_broken(rule):
    """The pair (bits, legs) of the least identity that is not kept; None if all are kept."""
    want_rule(rule)
    for many in range(1, rule.legs + 1):
        for legs in combinations(range(rule.legs), many):
            masks = masks_of(rule, legs)
            for number in range(1 << rule.legs):
                if identity_sum(rule, number, masks):
                    return (bits_of(number, rule.legs), legs)
    return None


def keeps_identities(rule):
    """Whether the rule keeps all identities."""
    return least_broken(rule) is None
