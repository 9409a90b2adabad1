"""Texts of rules and forms: parts with as few numbers as can be, one blank between any two tokens."""

from itertools import combinations

from onebasis.errors import BadRule
from onebasis.factoring import is_split, worths_at
from onebasis.fields import inverse_of
from onebasis.forms import want_form
from onebasis.onesrules import worths_by_ones
from onebasis.pfaffians import first_not_zero
from onebasis.rules import Rule, want_rule
from onebasis.webs import are_rules_of_one_prime

LEAST_BY_ONES = 2


def rule_parts(rule):
    """The parts of the text of the rule, each the pair of its word and its numbers."""
    want_rule(rule)
    base = first_not_zero(rule.table)
    if base is None:
        base, splits = 0, []
    else:
        splits = [at for at in range(1, rule.legs) if is_split(rule, base, list(range(at)))]
    found = []
    for many in range(len(splits) + 1):
        for cuts in combinations(splits, many):
            bounds = [0] + list(cuts) + [rule.legs]
            spans = [(bounds[k], bounds[k + 1]) for k in range(many + 1)]
            parts = [part_of(rule, base, low, high) for low, high in spans]
            size = sum([len(numbers) for _, numbers in parts])
            found.append((size, len(parts), [low - high for low, high in spans], parts))
    return min(found, key=lambda row: row[:3])[3]


def part_of(rule, base, low, high):
    """The part of the legs from low to ahead of high, for a rule that can be parted there, round the bits of base."""
    legs = list(range(low, high))
    numbers = worths_at(rule, base, legs)
    if low > 0:
        inverse = inverse_of(rule.prime, rule.table[base])
        numbers = [number * inverse % rule.prime for number in numbers]
    worths = worths_by_ones(Rule(rule.prime, numbers))
    if worths is not None and len(legs) >= LEAST_BY_ONES:
        return ("ones", tuple(worths))
    return ("table", tuple(numbers))


def rule_text(rule):
    """The text of the rule."""
    told = parts_text(rule)
    return f"mod {rule.prime} {told}"


def parts_text(rule):
    """The parts of the rule as they stand in texts."""
    signs = {"table": "[]", "ones": "<>"}
    return " * ".join([signs[word][0] + numbers_text(told) + signs[word][1] for word, told in rule_parts(rule)])


def numbers_text(numbers):
    """The numbers with a blank between any two."""
    return " ".join([str(number) for number in numbers])


def rules_text(rules):
    """The text of a list of rules of one prime."""
    if not are_rules_of_one_prime(rules) or len(rules) == 0:
        raise BadRule("rules")
    return f"mod {rules[0].prime} " + " ".join(["| " + parts_text(rule) for rule in rules])


def form_text(form):
    """The text of the form."""
    want_form(form)
    pairs = [form.table[i][j] for i in range(form.legs) for j in range(i + 1, form.legs)]
    told = [numbers_text(form.flips), ":", numbers_text(pairs)]
    tokens = [f"mod {form.prime} form {form.legs} : {form.number} :"] + told
    return " ".join([token for token in tokens if token])
