"""Lots of rules on two sides: the bases under which all of them have forms, or what bars each basis."""

from onebasis.alike import all_bases
from onebasis.bases import changed, other_side
from onebasis.checks import is_bit, is_from, is_list, is_prime, is_tuple_of
from onebasis.errors import BadBits, BadLot, BadNumber, BadRule
from onebasis.foundforms import has_form
from onebasis.identities import identity, least_broken
from onebasis.webs import are_rules


def want_lot(prime, lefts, rights):
    """Refuses what is no lot."""
    if not is_prime(prime):
        raise BadRule("prime")
    if not are_rules(prime, lefts):
        raise BadLot("lefts")
    if not are_rules(prime, rights):
        raise BadLot("rights")


def first_barred(lefts, rights, basis, fits):
    """The triple (side, index, changed rule) of the first rule that, changed, does not fit; None if all do."""
    for side, rules, told in ((0, lefts, basis), (1, rights, other_side(basis))):
        met = {}
        for index, rule in enumerate(rules):
            if rule.table not in met:
                met[rule.table] = True
                fresh = changed(rule, told)
                if not fits(fresh):
                    return (side, index, fresh)
    return None


def fitting_bases(bases, lefts, rights, fits):
    """Those of the bases under which all rules of the lot fit."""
    return [basis for basis in bases if first_barred(lefts, rights, basis, fits) is None]


def bases_of(prime, lefts, rights):
    """All plain bases that are good for the lot."""
    want_lot(prime, lefts, rights)
    return fitting_bases(all_bases(prime), lefts, rights, has_form)


def first_basis(prime, lefts, rights):
    """The first plain basis that is good for the lot; None without one."""
    want_lot(prime, lefts, rights)
    for basis in all_bases(prime):
        if first_barred(lefts, rights, basis, has_form) is None:
            return basis
    return None


def bars(prime, lefts, rights):
    """For each plain basis a rule of the lot and an identity that it, changed, does not keep; None if one is good."""
    want_lot(prime, lefts, rights)
    found = []
    for basis in all_bases(prime):
        barred = first_barred(lefts, rights, basis, has_form)
        if barred is None:
            return None
        found.append(barred)
    return [(side, index, least_broken(fresh)) for side, index, fresh in found]


def is_bars(prime, lefts, rights, paper):
    """Whether any value tells for each plain basis such a rule and such an identity."""
    want_lot(prime, lefts, rights)
    bases = all_bases(prime)
    if not is_list(paper) or len(paper) != len(bases):
        return False
    for basis, thing in zip(bases, paper):
        if not is_barred(lefts, rights, basis, thing):
            return False
    return True


def is_barred(lefts, rights, basis, thing):
    """Whether it is a side, an index and an identity that this rule, changed by the basis, does not keep."""
    if not is_tuple_of(thing, 3) or not is_bit(thing[0]) or not is_tuple_of(thing[2], 2):
        return False
    rules, told = (rights, other_side(basis)) if thing[0] else (lefts, basis)
    if not is_from(thing[1], 0, len(rules) - 1):
        return False
    try:
        return identity(changed(rules[thing[1]], told), thing[2][0], thing[2][1]) != 0
    except (BadBits, BadNumber):
        return False
