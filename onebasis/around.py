"""What stands round a place of a web: the rule that tells the sum for whatever rule stands there."""

from onebasis.checks import MOST_LEGS, are_bits, is_from, is_prime
from onebasis.errors import BadBits, BadNumber, BadRule
from onebasis.fillings import filled_places, row_without, surrounding_tables, want_few
from onebasis.legwork import bits_number
from onebasis.rules import Rule, want_rule
from onebasis.webs import Web, want_web


def want_place(web, place, part):
    """Refuses what is no place of the web."""
    if not is_from(place, 0, len(web.rules) - 1):
        raise BadNumber(part)


def want_outer_bits(web, bits):
    """Refuses what are no bits for the outer legs."""
    if not are_bits(bits, len(web.outer)):
        raise BadBits("as many bits as outer legs are wanted")


def with_rule(web, place, rule):
    """The web with this rule at the place."""
    want_web(web)
    want_rule(rule)
    want_place(web, place, "place")
    if rule.prime != web.prime or rule.legs != web.rules[place].legs:
        raise BadRule("rule")
    return exchanged_rules(web, {place: rule})


def exchanged_rules(web, fresh):
    """The web with the rules of the dict fresh at its places."""
    rules = [fresh.get(place, rule) for place, rule in enumerate(web.rules)]
    return Web(web.prime, rules, web.ties, web.outer)


def delta(prime, bits):
    """The rule that is worth 1 at these bits and 0 at all others."""
    if not is_prime(prime):
        raise BadRule("prime")
    if not isinstance(bits, tuple) or len(bits) > MOST_LEGS or not are_bits(bits, len(bits)):
        raise BadBits("a tuple of at most 8 bits is wanted")
    table = [0] * (1 << len(bits))
    table[bits_number(bits)] = 1
    return Rule(prime, table)


def weighed(rule, other):
    """The sum, over all bits, of the products of the worths of both."""
    want_rule(rule)
    want_rule(other)
    if other.prime != rule.prime or other.legs != rule.legs:
        raise BadRule("other")
    return sum([x * y for x, y in zip(rule.table, other.table)]) % rule.prime


def around(web, place, bits):
    """The rule whose worth at b is the sum at bits with the delta of b at the place."""
    want_web(web)
    want_place(web, place, "place")
    want_outer_bits(web, bits)
    want_few(web)
    return Rule(web.prime, around_tables(web, place)[bits_number(bits)])


def around_tables(web, place):
    """For all bits at the outer legs, ascending: the table of the rule that stands round the place."""
    filled = filled_places(web)
    return surrounding_tables(web, place, filled[place], row_without(web, filled, [place]))
