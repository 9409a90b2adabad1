"""The normal form of a rule, if it has one."""

from onebasis.fields import inverse_of
from onebasis.forms import Form, rule_of
from onebasis.legwork import bits_of, leg_mask
from onebasis.pfaffians import first_not_zero
from onebasis.rules import want_rule


def form_of(rule):
    """The normal Form with the rule's worths; None if no form has them."""
    want_rule(rule)
    base = first_not_zero(rule.table)
    if base is None:
        return Form(rule.prime, 0, (), [[0] * rule.legs for _ in range(rule.legs)])
    # Bits that part at just one leg never both have a worth; this alone tells most rules without a form.
    if any([rule.table[base ^ leg_mask(rule.legs, k)] for k in range(rule.legs)]):
        return None
    flips = tuple([k for k, bit in enumerate(bits_of(base, rule.legs)) if bit])
    form = Form(rule.prime, rule.table[base], flips, table_round(rule, base))
    return form if rule_of(form) == rule else None


def table_round(rule, base):
    """The skew table that the worths tell which part from base, the number of bits, at two legs."""
    inverse = inverse_of(rule.prime, rule.table[base])
    table = [[0] * rule.legs for _ in range(rule.legs)]
    for i in range(rule.legs):
        for j in range(i + 1, rule.legs):
            number = rule.table[base ^ leg_mask(rule.legs, i) ^ leg_mask(rule.legs, j)] * inverse
            table[i][j] = number % rule.prime
            table[j][i] = -number % rule.prime
    return table


def has_form(rule):
    """Whether there is a form with the rule's worths."""
    return form_of(rule) is not None
