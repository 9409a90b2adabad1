"""Formulas: clauses over variables, as webs of the clauses' rules and of places where variables are read."""

from onebasis.basissums import basis_sum
from onebasis.checks import MOST_FILLED, MOST_LEGS, MOST_PLACES, MOST_TIES, is_from, is_list, is_prime, is_tuple_of
from onebasis.errors import BadFormula, TooMany
from onebasis.legwork import bits_number, bits_of
from onebasis.rules import Rule, ones
from onebasis.webs import Web


class Formula:
    """Clauses, each a rule and as many variables as it has legs, over the field of a prime."""

    def __init__(self, prime, variables, clauses):
        if not is_prime(prime):
            raise BadFormula("prime")
        if not is_from(variables, 0, MOST_PLACES):
            raise BadFormula("variables")
        if not is_list(clauses) or len(clauses) > MOST_PLACES:
            raise BadFormula("clauses")
        if not all([is_clause(prime, variables, clause) for clause in clauses]):
            raise BadFormula("clauses")
        self.prime = prime
        self.variables = variables
        self.clauses = tuple([(rule, tuple(places)) for rule, places in clauses])

    def __eq__(self, other):
        if not isinstance(other, Formula) or self.prime != other.prime:
            return False
        return self.variables == other.variables and self.clauses == other.clauses


def is_clause(prime, variables, thing):
    """Whether it is a pair of a rule and of as many numbers of variables as it has legs."""
    if not is_tuple_of(thing, 2) or not isinstance(thing[0], Rule) or thing[0].prime != prime:
        return False
    if not is_list(thing[1]) or len(thing[1]) != thing[0].legs:
        return False
    return all([is_from(place, 0, variables - 1) for place in thing[1]])


def want_formula(formula):
    """Refuses what is no Formula."""
    if not isinstance(formula, Formula):
        raise BadFormula(None)


def solutions(formula):
    """The sum, over all bits for the variables, of the products of the worths of the clauses."""
    want_formula(formula)
    if formula.variables > MOST_FILLED:
        raise TooMany(MOST_FILLED)
    total = 0
    for number in range(1 << formula.variables):
        bits = bits_of(number, formula.variables)
        worth = 1
        for rule, places in formula.clauses:
            worth = worth * rule.table[bits_number([bits[place] for place in places])] % formula.prime
        total += worth
    return total % formula.prime


def formula_web(formula):
    """The web of the clauses' rules and of one place for each variable."""
    want_formula(formula)
    many = len(formula.clauses)
    spots = [[] for _ in range(formula.variables)]
    for clause, (_, places) in enumerate(formula.clauses):
        for k, place in enumerate(places):
            spots[place].append((clause, k))
    if any([len(spot) > MOST_LEGS for spot in spots]):
        raise TooMany(MOST_LEGS)
    if many + formula.variables > MOST_PLACES:
        raise TooMany(MOST_PLACES)
    if sum([len(spot) for spot in spots]) > MOST_TIES:
        raise TooMany(MOST_TIES)
    rules = [rule for rule, _ in formula.clauses] + [alike_rule(formula.prime, len(spot)) for spot in spots]
    ties = [(leg, (many + place, k)) for place, spot in enumerate(spots) for k, leg in enumerate(spot)]
    return Web(formula.prime, rules, ties, [])


def alike_rule(prime, legs):
    """The rule that is worth 1 where all legs have bit 0, and where all have bit 1."""
    return ones(prime, legs, [1] + [0] * (legs - 1) + [1] if legs else [2])


def formula_sum(formula):
    """The pair of a basis and of what solutions tells, for any number of variables; None without a good basis."""
    web = formula_web(formula)
    told = basis_sum(web, list(range(len(formula.clauses))))
    return None if told is None else (told[0], told[1].table[0])
