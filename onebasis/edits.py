"""Edits of webs: small changes, some of which keep the sum."""

from onebasis.around import exchanged_rules
from onebasis.checks import MOST_LEGS, MOST_PLACES, MOST_TIES, are_bits, are_field_numbers, is_bit, is_from, is_table
from onebasis.checks import is_tuple_of
from onebasis.errors import BadEdit, NotLet
from onebasis.ledwebs import led_along, turned_along
from onebasis.legwork import behind, spots_of
from onebasis.rules import Rule, closed, flipped, joined
from onebasis.surfaces import other_ends
from onebasis.webs import Web, leg_counts, want_web

MOST_NUMBER = 1000000000
GREATEST_PRIME = 97

SHAPES = {
    "rule": ("number", "table"),
    "add": ("table",),
    "tie": ("leg", "leg"),
    "cut": ("leg",),
    "swap": ("number",),
    "turn": ("number", "number"),
    "flip": ("leg",),
    "merge": ("leg",),
}


def is_edit(thing):
    """Whether any value is an edit."""
    return has_shape(SHAPES.get(first_word(thing)), thing)


def first_word(thing):
    """The string that a tuple begins with; None of any other value."""
    if not isinstance(thing, tuple) or len(thing) == 0 or not isinstance(thing[0], str):
        return None
    return thing[0]


def has_shape(shape, thing):
    """Whether a tuple has, behind its first word, just parts of the kinds that the shape tells; no shape, if None."""
    if shape is None or len(thing) != len(shape) + 1:
        return False
    return all([is_part(kind, x) for kind, x in zip(shape, thing[1:])])


def is_part(kind, thing):
    """Whether it is a part of an edit, or of a question, of this kind."""
    if kind == "number":
        return is_from(thing, 0, MOST_NUMBER)
    if kind == "leg":
        return is_tuple_of(thing, 2) and all([is_from(x, 0, MOST_NUMBER) for x in thing])
    if kind == "bit":
        return is_bit(thing)
    if kind == "bits":
        return isinstance(thing, tuple) and len(thing) <= MOST_LEGS and are_bits(thing, len(thing))
    return isinstance(thing, tuple) and is_table(GREATEST_PRIME, thing)


def edited(web, edit):
    """The web behind the edit."""
    want_web(web)
    if not is_edit(edit):
        raise BadEdit("an edit is wanted")
    step = STEPS[edit[0]]
    parts = edit[1:]
    return step(web, *parts)


def want_let(let, why):
    """Refuses an edit that is not let."""
    if not let:
        raise NotLet(why)


def with_own_rule(web, place, table):
    """The web whose place has the rule with this table."""
    want_let(place < len(web.rules), "place")
    fits = are_field_numbers(web.prime, table) and len(table) == len(web.rules[place].table)
    want_let(fits, "table")
    return exchanged_rules(web, {place: Rule(web.prime, table)})


def with_place(web, table):
    """The web with one more place, with the rule with this table."""
    want_let(are_field_numbers(web.prime, table), "table")
    rule = Rule(web.prime, table)
    want_let(len(web.rules) < MOST_PLACES and len(web.outer) + rule.legs <= MOST_LEGS, "many")
    legs = [(len(web.rules), k) for k in range(rule.legs)]
    return Web(web.prime, list(web.rules) + [rule], web.ties, list(web.outer) + legs)


def with_tie(web, one, other):
    """The web with two outer legs tied."""
    want_let(one in web.outer and other in web.outer and one != other, "leg")
    want_let(len(web.ties) < MOST_TIES, "many")
    outer = [leg for leg in web.outer if leg not in (one, other)]
    return Web(web.prime, web.rules, list(web.ties) + [(one, other)], outer)


def tie_at(web, leg):
    """The tie in which the leg stands."""
    ends = other_ends(web.ties)
    want_let(leg in ends, "leg")
    return tuple(sorted([leg, ends[leg]]))


def with_cut(web, leg):
    """The web without the tie of the leg."""
    tie = tie_at(web, leg)
    want_let(len(web.outer) + 2 <= MOST_LEGS, "many")
    return Web(web.prime, web.rules, [x for x in web.ties if x != tie], list(web.outer) + list(tie))


def with_swap(web, number):
    """The web with an outer leg and the next one exchanged."""
    want_let(number + 1 < len(web.outer), "leg")
    outer = list(web.outer)
    outer[number], outer[number + 1] = outer[number + 1], outer[number]
    return Web(web.prime, web.rules, web.ties, outer)


def with_turn(web, place, many):
    """The web with the rule at the place turned, its ties and outer legs led along."""
    want_let(place < len(web.rules), "place")
    want_let(many <= MOST_LEGS, "many")
    return turned_along(web, [many if k == place else 0 for k in range(len(web.rules))])


def with_flip(web, leg):
    """The web with the rules at both legs of the leg's tie flipped there."""
    rules = list(web.rules)
    for place, k in tie_at(web, leg):
        rules[place] = flipped(rules[place], k)
    return Web(web.prime, rules, web.ties, web.outer)


def with_merge(web, leg):
    """The web with the places of the leg's tie joined over it."""
    one, other = tie_at(web, leg)
    rules = list(web.rules)
    spots = spots_of(leg_counts(web))
    if one[0] == other[0]:
        rules[one[0]] = closed(rules[one[0]], one[1], other[1])
        spots[one[0]] = [x for x in spots[one[0]] if x not in (one, other)]
    else:
        want_let(rules[one[0]].legs + rules[other[0]].legs - 2 <= MOST_LEGS, "many")
        rules[one[0]] = joined(rules[one[0]], one[1], rules[other[0]], other[1])
        spots[one[0]] = legs_behind(spots, one) + legs_behind(spots, other)
        del rules[other[0]], spots[other[0]]
    return led_along(web, rules, spots, [tie for tie in web.ties if one not in tie])


def legs_behind(spots, leg):
    """The other legs of the leg's place, going round from behind it."""
    return [(leg[0], k) for k in behind(len(spots[leg[0]]), leg[1])]


STEPS = {
    "rule": with_own_rule,
    "add": with_place,
    "tie": with_tie,
    "cut": with_cut,
    "swap": with_swap,
    "turn": with_turn,
    "flip": with_flip,
    "merge": with_merge,
}
