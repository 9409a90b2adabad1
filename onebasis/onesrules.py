"""Rules by ones: the equations between their worths, and of which kind they are."""

from onebasis.alike import points
from onebasis.errors import BadRule
from onebasis.fields import null_rows
from onebasis.rules import many_ones, want_rule

LEAST_LEGS = 3


def worths_by_ones(rule):
    """The list of the worths by how many bits are 1; None if the rule is not by ones."""
    worths = [rule.table[(1 << k) - 1] for k in range(rule.legs + 1)]
    if any([rule.table[k] != worths[many_ones(k)] for k in range(len(rule.table))]):
        return None
    return worths


def equations(rule):
    """The fewest triples of which all equations are sums with factors, reduced and ascending."""
    want_rule(rule)
    worths = worths_by_ones(rule)
    if worths is None or rule.legs < LEAST_LEGS:
        raise BadRule("ones")
    rows = [worths[k:k + 3] for k in range(rule.legs - 1)]
    return sorted([tuple(row) for row in null_rows(rule.prime, rows, 3)])


def ones_kind(rule):
    """Of which kind a rule by ones is."""
    told = equations(rule)
    if len(told) == 3:
        return "zero"
    if len(told) == 2:
        return "power"
    if len(told) == 0:
        return "none"
    a, b, c = told[0]
    zeros = [s for s, t in points(rule.prime) if (a * s * s + b * s * t + c * t * t) % rule.prime == 0]
    if len(zeros) == 2:
        return "split"
    return "double" if len(zeros) == 1 else "twin"
