"""Rules: a number of a prime field for all bits at some legs."""

from onebasis.checks import MOST_LEGS, are_bits, is_bit, is_field_number, is_from, is_list, is_prime, is_table
from onebasis.errors import BadBits, BadNumber, BadRule, TooMany
from onebasis.legwork import behind, bits_number, leg_mask, leg_sums


class Rule:
    """A table of 2 ** legs numbers of the field of a prime."""

    def __init__(self, prime, table):
        if not is_prime(prime):
            raise BadRule("prime")
        if not is_table(prime, table):
            raise BadRule("table")
        self.prime = prime
        self.legs = len(table).bit_length() - 1
        self.table = tuple(table)

    def __eq__(self, other):
        return isinstance(other, Rule) and self.prime == other.prime and self.table == other.table


def want_rule(rule):
    """Refuses what is no Rule."""
    if not isinstance(rule, Rule):
        raise BadRule(None)


def want_leg(rule, leg, part):
    """Refuses what is no leg of the rule."""
    if not is_from(leg, 0, rule.legs - 1):
        raise BadNumber(part)


def want_two_legs(rule, leg, other):
    """Refuses what are no two legs of the rule."""
    want_leg(rule, leg, "leg")
    want_leg(rule, other, "other")
    if other == leg:
        raise BadNumber("other")


def worth(rule, bits):
    """The number of the rule at a tuple of bits."""
    want_rule(rule)
    if not are_bits(bits, rule.legs):
        raise BadBits("as many bits as legs are wanted")
    return rule.table[bits_number(bits)]


def scaled(rule, number):
    """The rule with all worths times the number."""
    want_rule(rule)
    if not is_field_number(rule.prime, number):
        raise BadNumber("number")
    return Rule(rule.prime, [x * number % rule.prime for x in rule.table])


def regrouped(rule, order):
    """The rule whose leg k is leg order[k] of the rule."""
    return Rule(rule.prime, [rule.table[k] for k in leg_sums(rule.legs, order, 0)])


def turned(rule, many):
    """The rule whose leg j is the rule's leg j + many, going round."""
    want_rule(rule)
    if not is_from(many, 0, MOST_LEGS):
        raise BadNumber("many")
    return regrouped(rule, [(k + many) % rule.legs for k in range(rule.legs)])


def mirrored(rule):
    """The rule with its legs in the reverse sequence."""
    want_rule(rule)
    return regrouped(rule, [rule.legs - 1 - k for k in range(rule.legs)])


def flipped(rule, leg):
    """The rule with the other bit at a leg."""
    want_rule(rule)
    want_leg(rule, leg, "leg")
    mask = leg_mask(rule.legs, leg)
    return Rule(rule.prime, [rule.table[k ^ mask] for k in range(len(rule.table))])


def set_leg(rule, leg, bit):
    """The rule without a leg, which has this bit."""
    want_rule(rule)
    want_leg(rule, leg, "leg")
    if not is_bit(bit):
        raise BadNumber("bit")
    others = [k for k in range(rule.legs) if k != leg]
    base = bit * leg_mask(rule.legs, leg)
    return Rule(rule.prime, [rule.table[k] for k in leg_sums(rule.legs, others, base)])


def beside(rule, other):
    """The rule with the legs of both, whose worth is the product of theirs."""
    want_rule(rule)
    want_rule(other)
    if other.prime != rule.prime:
        raise BadRule("other")
    if rule.legs + other.legs > MOST_LEGS:
        raise TooMany(MOST_LEGS)
    return Rule(rule.prime, [x * y % rule.prime for x in rule.table for y in other.table])


def closed(rule, leg, other):
    """The rule without two legs, summed over the bits 0 and 1 that both have."""
    want_rule(rule)
    want_two_legs(rule, leg, other)
    others = [k for k in range(rule.legs) if k not in (leg, other)]
    both = leg_mask(rule.legs, leg) + leg_mask(rule.legs, other)
    zeros = leg_sums(rule.legs, others, 0)
    return Rule(rule.prime, [(rule.table[k] + rule.table[k + both]) % rule.prime for k in zeros])


def joined(rule, leg, other, place):
    """Both rules closed over the tie of leg and place; their legs going round from behind these."""
    want_rule(rule)
    want_rule(other)
    want_leg(rule, leg, "leg")
    if other.prime != rule.prime:
        raise BadRule("other")
    want_leg(other, place, "place")
    if rule.legs + other.legs - 2 > MOST_LEGS:
        raise TooMany(MOST_LEGS)
    firsts, seconds = rows_by_bit(rule, leg), rows_by_bit(other, place)
    return Rule(rule.prime, [(x * v + y * w) % rule.prime for x, y in firsts for v, w in seconds])


def rows_by_bit(rule, leg):
    """For all bits at the other legs, from behind leg on: the pair of the worths with 0 and with 1 at leg."""
    mask = leg_mask(rule.legs, leg)
    zeros = leg_sums(rule.legs, behind(rule.legs, leg), 0)
    return [(rule.table[k], rule.table[k + mask]) for k in zeros]


def ones(prime, legs, worths):
    """The rule whose worth at bits with k ones is worths[k]."""
    if not is_prime(prime):
        raise BadRule("prime")
    if not is_from(legs, 0, MOST_LEGS):
        raise BadNumber("legs")
    if not is_list(worths) or len(worths) != legs + 1:
        raise BadRule("table")
    return Rule(prime, [worths[many_ones(k)] for k in range(1 << legs)])


def many_ones(number):
    """How many ones the number has, written in bits."""
    out = 0
    while number:
        out += number & 1
        number //= 2
    return out
