"""Texts of rules and forms: parts with as few numbers as can be, one blank between any two tokens."""

from itertools import combinations

from onebasis.checks import is_list
from onebasis.errors import BadRule
from onebasis.fields import inverse_of
from onebasis.forms import want_form
from onebasis.legwork import leg_sums
from onebasis.onesrules import worths_by_ones
from onebasis.pfaffians import first_not_zero
from onebasis.rules import Rule, want_rule
from onebasis.webs import are_rules

LEAST_BY_ONES = 2


def rule_parts(rule):
    """The parts of the text of the rule, each the pair of its word and its numbers."""
    want_rule(rule)
    splits = [at for at in range(1, rule.legs) if is_parted(rule, at)] if any(rule.table) else []
    found = []
    for many in range(len(splits) + 1):
        for cuts in combinations(splits, many):
            bounds = [0] + list(cuts) + [rule.legs]
            spans = [(bounds[k], bounds[k + 1]) for k in range(many + 1)]
            parts = [part_of(rule, low, high) for low, high in spans]
            size = sum([len(numbers) for _, numbers in parts])
            found.append((size, len(parts), [low - high for low, high in spans], parts))
    return min(found, key=lambda row: row[:3])[3]


def is_parted(rule, at):
    """Whether a rule that is not 0 throughout is a product of a rule of the legs ahead of at and one of the others."""
    size = 1 << (rule.legs - at)
    rows = [rule.table[k:k + size] for k in range(0, len(rule.table), size)]
    first = [row for row in rows if any(row)][0]
    lead = first_not_zero(first)
    for row in rows:
        if any([(x * first[lead] - y * row[lead]) % rule.prime for x, y in zip(row, first)]):
            return False
    return True


def part_of(rule, low, high):
    """The part of the legs from low to ahead of high, for a rule that can be parted there."""
    base = first_not_zero(rule.table)
    if base is None:
        base = 0
    legs = list(range(low, high))
    zeros = base - sum([base & 1 << (rule.legs - 1 - leg) for leg in legs])
    numbers = [rule.table[k] for k in leg_sums(rule.legs, legs, zeros)]
    if low > 0:
        inverse = inverse_of(rule.prime, rule.table[base])
        numbers = [number * inverse % rule.prime for number in numbers]
    worths = worths_by_ones(Rule(rule.prime, numbers))
    if worths is not None and len(legs) >= LEAST_BY_ONES:
        return ("ones", tuple(worths))
    return ("table", tuple(numbers))


def rule_text(rule):
    """The text of the rule."""
    told = parts_text(rule)
    return f"mod {rule.prime} {told}"


def parts_text(rule):
    """The parts of the rule as they stand in texts."""
    signs = {"table": "[]", "ones": "<>"}
    return " * ".join([signs[word][0] + numbers_text(told) + signs[word][1] for word, told in rule_parts(rule)])


def numbers_text(numbers):
    """The numbers with a blank between any two."""
    return " ".join([str(number) for number in numbers])


def rules_text(rules):
    """The text of a list of rules of one prime."""
    if not is_list(rules) or len(rules) == 0 or not isinstance(rules[0], Rule):
        raise BadRule("rules")
    if not are_rules(rules[0].prime, rules):
        raise BadRule("rules")
    return f"mod {rules[0].prime} " + " ".join(["| " + parts_text(rule) for rule in rules])


def form_text(form):
    """The text of the form."""
    want_form(form)
    pairs = [form.table[i][j] for i in range(form.legs) for j in range(i + 1, form.legs)]
    told = [numbers_text(form.flips), ":", numbers_text(pairs)]
    tokens = [f"mod {form.prime} form {form.legs} : {form.number} :"] + told
    return " ".join([token for token in tokens if token])
