"""Papers that a rule is not affine."""

from onebasis.checks import are_bits
from onebasis.fields import power_of
from onebasis.foundaffine import affine_form, space_of, ways_from
from onebasis.legwork import bits_number, bits_of, places_in
from onebasis.rules import want_rule
from onebasis.units import unit

PARTS = {"space": 3, "share": 2, "phase": 4}


def not_affine(rule):
    """A paper that the rule is not affine; None if it is."""
    if affine_form(rule) is not None:
        return None
    word, places = broken(rule, space_of(rule))
    return tuple([word] + [bits_of(place, rule.legs) for place in places])


def broken(rule, space):
    """The word and the numbers of the bits of a paper, for a rule that is not affine and its space."""
    for b in space:
        for c in space:
            if rule.table[space[0] ^ b ^ c] == 0:
                return ("space", [space[0], b, c])
    for b in space:
        if is_broken_share(rule, space[0], b):
            return ("share", [space[0], b])
    ways = ways_from(space)
    choices = [[ways[k] for k in places_in(choice)] for choice in range(1 << len(ways))]
    # Of the sums of fewest ways at which the rule is not what sums of one and of two of them tell, this is one.
    tried = [phase_of(space[0], taken) for taken in choices if len(taken) > 1]
    return ("phase", [places for places in tried if is_broken_phase(rule, *places)][0])


def phase_of(start, taken):
    """The numbers of bits whose phase tells the sum of these ways by sums of fewer ones."""
    first, second, rest = taken[0], taken[1], 0
    for way in taken[2:]:
        rest ^= way
    if rest == 0:
        return [start, start ^ first, start ^ first, start ^ second]
    return [start, start ^ first, start ^ second, start ^ rest]


def is_broken_share(rule, a, b):
    """Whether the worths at both, times themselves as often as the order tells, are unlike."""
    order = unit(rule.prime)[1]
    return (power_of(rule.table[a], order) - power_of(rule.table[b], order)) % rule.prime != 0


def is_broken_phase(rule, a, b, c, d):
    """Whether the worths at the even sums make another product than those at the odd ones."""
    table = rule.table
    evens = table[a] * table[a ^ b ^ c] * table[a ^ b ^ d] * table[a ^ c ^ d]
    return (evens - table[b] * table[c] * table[d] * table[b ^ c ^ d]) % rule.prime != 0


def is_against_affine(rule, paper):
    """Whether any value is a paper that the rule is not affine."""
    want_rule(rule)
    if not isinstance(paper, tuple) or len(paper) == 0 or not isinstance(paper[0], str):
        return False
    parts = paper[1:]
    if PARTS.get(paper[0]) != len(parts) or not all([are_bits(bits, rule.legs) for bits in parts]):
        return False
    places = [bits_number(bits) for bits in parts]
    if not all([rule.table[place] for place in places]):
        return False
    if paper[0] == "space":
        return rule.table[places[0] ^ places[1] ^ places[2]] == 0
    if paper[0] == "share":
        return is_broken_share(rule, *places)
    return is_broken_phase(rule, *places)
