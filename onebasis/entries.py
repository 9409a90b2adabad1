"""Entries of the rules of a web: which of them the sum does not hang on, alone and together."""

from itertools import combinations

from onebasis.around import delta, exchanged_rules
from onebasis.checks import are_bits, are_unlike, is_from, is_list, is_tuple_of
from onebasis.errors import BadEntries
from onebasis.fillings import filled_places, filling_sums, rows_without, surrounding_tables, want_few
from onebasis.legwork import bits_number, bits_of
from onebasis.rules import Rule
from onebasis.webs import want_web

MOST_ENTRIES = 4


def idle(web):
    """All entries such that the sum is the same whatever number each one has."""
    want_web(web)
    want_few(web)
    filled = filled_places(web)
    found = []
    for place, row in enumerate(rows_without(web, filled)):
        tables = surrounding_tables(web, place, filled[place], row)
        legs = web.rules[place].legs
        free = [k for k in range(1 << legs) if not any([table[k] for table in tables])]
        found.extend([(place, bits_of(k, legs)) for k in free])
    return found


def is_free(web, lot):
    """Whether the sum is the same whatever numbers the entries of the lot have."""
    return bound(web, lot) is None


def bound(web, lot):
    """The first product of entries of the lot that the sum hangs on; None if there is none."""
    want_web(web)
    if not is_lot(web, lot):
        raise BadEntries("an ascending list of at most 4 entries is wanted")
    want_few(web)
    plain = without_entries(web, lot)
    every = list(lot)
    for many in range(1, len(every) + 1):
        for some in combinations(every, many):
            if are_unlike([place for place, _ in some]):
                told = first_sum(web, plain, some)
                if told is not None:
                    return told
    return None


def is_lot(web, things):
    """Whether it is an ascending list of at most 4 entries of the web, no two equal."""
    if not is_list(things) or len(things) > MOST_ENTRIES or not all([is_entry(web, x) for x in things]):
        return False
    return all([things[k] < things[k + 1] for k in range(len(things) - 1)])


def is_entry(web, thing):
    """Whether it is a pair of a place and a tuple of as many bits as this has legs."""
    if not is_tuple_of(thing, 2) or not is_from(thing[0], 0, len(web.rules) - 1):
        return False
    return are_bits(thing[1], web.rules[thing[0]].legs)


def without_entries(web, lot):
    """The dict from the places of the lot to their rules with 0 at its entries."""
    plain = {}
    for place, bits in lot:
        table = list(plain.get(place, web.rules[place]).table)
        table[bits_number(bits)] = 0
        plain[place] = Rule(web.prime, table)
    return plain


def first_sum(web, plain, some):
    """The triple of some, the least bits with a sum that is not 0, and this sum; None without such bits."""
    fresh = {place: plain[place] for place in plain}
    for place, bits in some:
        fresh[place] = delta(web.prime, bits)
    sums = filling_sums(exchanged_rules(web, fresh))
    for k, number in enumerate(sums):
        if number:
            return (list(some), bits_of(k, len(web.outer)), number)
    return None
