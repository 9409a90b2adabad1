"""The affine form of a rule, if it has one."""

from onebasis.affine import Affine, affine_rule, zero_affine
from onebasis.fields import inverse_of, power_of
from onebasis.legwork import bits_of
from onebasis.parities import reduced_masks
from onebasis.rules import want_rule
from onebasis.units import unit


def space_of(rule):
    """The numbers of the bits at which the rule is not 0, ascending."""
    return [k for k, number in enumerate(rule.table) if number]


def ways_from(space):
    """The ways that lead from the first of the space to all of it, and to what they reach together."""
    return reduced_masks([k ^ space[0] for k in space])


def affine_form(rule):
    """The Affine with the rule's worths; None if there is none."""
    want_rule(rule)
    space = space_of(rule)
    if not space:
        return zero_affine(rule.prime, rule.legs)
    ways = ways_from(space)
    if len(space) != 1 << len(ways):
        return None
    # The least of the space has 0 at the leads of all ways, or it would not be the least.
    start = space[0]
    inverse = inverse_of(rule.prime, rule.table[start])
    shares = [rule.table[start ^ way] * inverse % rule.prime for way in ways]
    number, order = unit(rule.prime)
    every = [power_of(number, k) % rule.prime for k in range(order)]
    if any([share not in every for share in shares]):
        return None
    pairs = []
    for k in range(len(ways)):
        for j in range(k):
            worth = rule.table[start ^ ways[j] ^ ways[k]] * inverse
            if (worth + shares[j] * shares[k]) % rule.prime == 0:
                pairs.append((j, k))
    told = [bits_of(way, rule.legs) for way in ways]
    powers = [every.index(share) for share in shares]
    form = Affine(rule.prime, rule.legs, rule.table[start], bits_of(start, rule.legs), told, powers, sorted(pairs))
    return form if affine_rule(form) == rule else None


def is_affine(rule):
    """Whether the rule is affine."""
    return affine_form(rule) is not None
