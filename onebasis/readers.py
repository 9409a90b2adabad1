"""Texts read: the rules, forms and webs that they tell, how far they are right, and how they can go on."""

from onebasis.errors import BadText
from onebasis.forms import Form
from onebasis.readings import behind_token, first_reading, is_whole, may_begin
from onebasis.rules import Rule, beside, ones
from onebasis.skews import set_pair
from onebasis.tokens import BLANK, EVERY_SIGN, end_of_token, goes_on, is_word, tokens_of
from onebasis.webs import Web


def read(sort, text):
    """How many signs make a beginning, what has been read ahead of the last token, and this one if it may go on."""
    if not isinstance(text, str):
        raise BadText(None)
    reading = first_reading(sort)
    at = 0
    while at < len(text):
        if text[at] == BLANK:
            at += 1
            continue
        end = end_of_token(text, at)
        further = behind_token(reading, text[at:end])
        if further is None or end == len(text):
            many = 1
            while many <= end - at and may_begin(reading, text[at:at + many]):
                many += 1
            return (at + many - 1, reading, text[at:end])
        reading = further
        at = end
    return (at, reading, "")


def whole_tokens(sort, text):
    """The tokens of a text; refuses what is none."""
    at, reading, token = read(sort, text)
    further = behind_token(reading, token) if token else reading
    if further is None or not is_whole(further):
        raise BadText(at)
    return tokens_of(text)


def next_signs(sort, text):
    """Whether a beginning is a text, and the signs each of which makes a beginning of it."""
    at, reading, token = read(sort, text)
    if at < len(text):
        raise BadText(at)
    further = behind_token(reading, token) if token else reading
    signs = [sign for sign in EVERY_SIGN if is_next(reading, token, further, sign)]
    return (further is not None and is_whole(further), "".join(signs))


def is_next(reading, token, further, sign):
    """Whether the sign behind the last token makes a beginning; further is what has been read with this token."""
    if token and goes_on(token, sign):
        return may_begin(reading, token + sign)
    return further is not None and (sign == BLANK or may_begin(further, sign))


def split_at(tokens, sign):
    """The lists of the tokens ahead of the first such sign, between any two of them, and behind the last one."""
    rows = [[]]
    for token in tokens:
        if token == sign:
            rows.append([])
        else:
            rows[-1].append(token)
    return rows


def rule_of_tokens(prime, tokens):
    """The rule of the parts that the tokens tell."""
    rule, numbers = Rule(prime, [1]), []
    for token in tokens:
        if token == "]":
            rule, numbers = beside(rule, Rule(prime, numbers)), []
        elif token == ">":
            rule, numbers = beside(rule, ones(prime, len(numbers) - 1, numbers)), []
        elif token not in ("[", "<", "*"):
            numbers.append(int(token))
    return rule


def rule_of_text(text):
    """The rule of a text."""
    tokens = whole_tokens("rule", text)
    return rule_of_tokens(int(tokens[1]), tokens[2:])


def rules_of_text(text):
    """The list of the rules of a text."""
    head, *rows = split_at(whole_tokens("rules", text), "|")
    return [rule_of_tokens(int(head[1]), row) for row in rows]


def form_of_text(text):
    """The form of a text."""
    head, scale, flips, numbers = split_at(whole_tokens("form", text), ":")
    prime, many = int(head[1]), int(head[3])
    table = [[0] * many for _ in range(many)]
    pairs = [(i, j) for i in range(many) for j in range(i + 1, many)]
    for (i, j), number in zip(pairs, numbers):
        set_pair(prime, table, i, j, int(number))
    return Form(prime, int(scale[0]), tuple([int(flip) for flip in flips]), table)


def web_of_text(text):
    """The web of a text."""
    body, outer = split_at(whole_tokens("web", text), ":")
    head, *rows = split_at(body, "|")
    prime = int(head[1])
    rules, legs = [], {}
    for place, row in enumerate(rows):
        rules.append(rule_of_tokens(prime, [token for token in row if not is_word(token)]))
        for k, word in enumerate([token for token in row if is_word(token)]):
            legs.setdefault(word, []).append((place, k))
    ties = [tuple(legs[word]) for word in legs if len(legs[word]) == 2]
    return Web(prime, rules, ties, [legs[word][0] for word in outer])


def next_in_rule(text):
    """Whether a beginning is a text of a rule, and the signs that go on with it."""
    return next_signs("rule", text)


def next_in_rules(text):
    """Whether a beginning is a text of rules, and the signs that go on with it."""
    return next_signs("rules", text)


def next_in_form(text):
    """Whether a beginning is a text of a form, and the signs that go on with it."""
    return next_signs("form", text)


def next_in_web(text):
    """Whether a beginning is a text of a web, and the signs that go on with it."""
    return next_signs("web", text)
