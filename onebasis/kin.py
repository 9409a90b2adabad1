"""The bases that change one rule to another one."""

from onebasis.bases import Basis, changed, determinant
from onebasis.errors import BadRule, TooMany
from onebasis.legwork import leg_mask
from onebasis.rules import want_rule

GREATEST_KIN = 7


def kin(rule, other):
    """All bases by which changed the rule is the other one, ascending by rows."""
    want_rule(rule)
    want_rule(other)
    if other.prime != rule.prime or other.legs != rule.legs:
        raise BadRule("other")
    if rule.prime > GREATEST_KIN:
        raise TooMany(GREATEST_KIN)
    # The worth of the changed rule at bits that are all 0, or all 1, hangs on one column of the basis alone.
    columns = [(x, y) for x in range(rule.prime) for y in range(rule.prime)]
    firsts = [column for column in columns if weight_by(rule, column) == other.table[0]]
    seconds = [column for column in columns if weight_by(rule, column) == other.table[-1]]
    rows = sorted([((a, b), (c, d)) for a, c in firsts for b, d in seconds])
    bases = [Basis(rule.prime, told) for told in rows if determinant(told) % rule.prime]
    return [basis for basis in bases if changed(rule, basis) == other]


def weight_by(rule, column):
    """The sum of the worths, each times the numbers of the column that its bits tell."""
    table = list(rule.table)
    for leg in range(rule.legs):
        half = leg_mask(rule.legs, leg)
        table = [(x * column[0] + y * column[1]) % rule.prime for x, y in zip(table[:half], table[half:])]
    return table[0]
