"""Texts read by another way, made up, and ended, for the tests."""

import re

from onebasis.errors import BasisError
from onebasis.forms import Form
from onebasis.rules import Rule, beside, ones
from onebasis.webs import Web

SIGNS = " *0123456789:<>[]abcdefghijklmnopqrstuvwxyz|"


class NoText(Exception):
    """What is read is no text."""


def plain_tokens(text):
    """The tokens of a text, by a pattern."""
    if re.sub(r"[a-z0-9\[\]<>*|: ]", "", text):
        raise NoText
    tokens = re.findall(r"[a-z]+|[0-9]+|[\[\]<>*|:]", text)
    if any(re.fullmatch("0[0-9]+", token) for token in tokens):
        raise NoText
    return tokens


def number(token, most):
    if not token.isdigit() or len(token) > 3 or int(token) > most:
        raise NoText
    return int(token)


def plain_rule(prime, told):
    """The rule of a text of an R, given as tokens with blanks between."""
    rule = Rule(prime, [1])
    for part in told.split("*"):
        found = re.fullmatch(r" *([\[<])([0-9 ]*)([\]>]) *", part)
        if not found or found[1] + found[3] not in ("[]", "<>"):
            raise NoText
        numbers = [number(token, prime - 1) for token in found[2].split()]
        try:
            fresh = Rule(prime, numbers) if found[1] == "[" else ones(prime, len(numbers) - 1, numbers)
            rule = beside(rule, fresh)
        except BasisError:
            raise NoText
    return rule


def plain_head(tokens):
    """The prime of a text and the tokens behind it, blanks between."""
    if len(tokens) < 2 or tokens[0] != "mod":
        raise NoText
    prime = number(tokens[1], 97)
    if prime < 3 or any(prime % k == 0 for k in range(2, prime)):
        raise NoText
    return prime, " ".join(tokens[2:])


def plain_read(sort, text):
    """What the text tells; NoText if it is none."""
    prime, body = plain_head(plain_tokens(text))
    if sort == "rule":
        return plain_rule(prime, body)
    if sort == "rules":
        head, *rows = body.split("|")
        if head.strip() or not 1 <= len(rows) <= 60:
            raise NoText
        return [plain_rule(prime, row) for row in rows]
    if sort == "form":
        return plain_form(prime, body.split(":"))
    return plain_web(prime, body.split(":"))


def plain_form(prime, sections):
    if len(sections) != 4:
        raise NoText
    head, scale, flips, table = [section.split() for section in sections]
    if len(head) != 2 or head[0] != "form" or len(scale) != 1:
        raise NoText
    many = number(head[1], 60)
    numbers = [number(token, prime - 1) for token in table]
    if len(numbers) != many * (many - 1) // 2:
        raise NoText
    rows = [[0] * many for _ in range(many)]
    for i in range(many):
        for j in range(i + 1, many):
            rows[i][j] = numbers.pop(0)
            rows[j][i] = -rows[i][j] % prime
    try:
        return Form(prime, number(scale[0], prime - 1), tuple(number(token, 60) for token in flips), rows)
    except BasisError:
        raise NoText


def plain_web(prime, sections):
    if len(sections) != 2:
        raise NoText
    head, *rows = sections[0].split("|")
    if head.strip():
        raise NoText
    legs, rules = {}, []
    for place, row in enumerate(rows):
        found = re.fullmatch(r"([^a-z]*)([a-z ]*)", row)
        if not found:
            raise NoText
        rules.append(plain_rule(prime, found[1]))
        words = found[2].split()
        if len(words) != rules[-1].legs:
            raise NoText
        for k, word in enumerate(words):
            legs.setdefault(word, []).append((place, k))
    outer = sections[1].split()
    if any(len(word) > 12 or len(legs[word]) > 2 for word in legs):
        raise NoText
    if sorted(outer) != sorted(word for word in legs if len(legs[word]) == 1):
        raise NoText
    try:
        return Web(prime, rules, [tuple(legs[word]) for word in legs if len(legs[word]) == 2],
                   [legs[word][0] for word in outer])
    except BasisError:
        raise NoText


def is_text(sort, text):
    """Whether it is a text of this sort."""
    try:
        plain_read(sort, text)
    except NoText:
        return False
    return True


def some_part(chance, prime, legs):
    """A made-up part with so many legs."""
    if chance.randrange(2):
        return ["<"] + [str(chance.randrange(prime)) for _ in range(legs + 1)] + [">"]
    return ["["] + [str(chance.randrange(prime)) for _ in range(1 << legs)] + ["]"]


def some_rule_tokens(chance, prime, legs, great=4):
    """The tokens of a made-up R with so many legs."""
    tokens = []
    left = legs
    while True:
        many = chance.randrange(min(left, great) + 1)
        tokens += some_part(chance, prime, many)
        left -= many
        if left == 0 and chance.randrange(4):
            return tokens
        tokens.append("*")


def spaced(chance, tokens):
    """The text of the tokens, with blanks as they must stand or may."""
    text = " " * chance.choice((0, 0, 1))
    for k, token in enumerate(tokens):
        text += token
        ahead = tokens[k + 1] if k + 1 < len(tokens) else ""
        must = ahead and ((token[0].isdigit() and ahead[0].isdigit()) or (token[0].isalpha() and ahead[0].isalpha()))
        text += " " * (chance.choice((1, 1, 2)) if must else chance.choice((0, 0, 1)))
    return text


def some_word(chance, taken, most=3):
    """A made-up word that is not among taken."""
    while True:
        word = "".join(chance.choice("abz") for _ in range(chance.randrange(1, most + 1)))
        if word not in taken:
            return word


def web_tokens(chance, web, most=3, great=4):
    """The tokens of a text of a web like this one, with made-up rules and words."""
    ends = {}
    for one, other in web.ties:
        ends[one], ends[other] = other, one
    words = {}
    tokens = ["mod", str(web.prime)]
    for place, rule in enumerate(web.rules):
        tokens += ["|"] + some_rule_tokens(chance, web.prime, rule.legs, great)
        for k in range(rule.legs):
            word = words.get(ends.get((place, k))) or some_word(chance, list(words.values()), most)
            words[place, k] = word
            tokens.append(word)
    return tokens + [":"] + [words[leg] for leg in web.outer]


def ended(sort, text, next_in):
    """A text that begins with this beginning, going on as next_in tells, as straight to the end as can be."""
    for _ in range(60000):
        whole, signs = next_in(text)
        if whole:
            return text
        text += next_sign(sort, text, signs)
    raise AssertionError(text)


def next_sign(sort, text, signs):
    """The sign that leads to the end soonest."""
    last = text.rstrip(" ")[-1:]
    body = text.split("|")[-1]
    letters = [sign for sign in signs if sign.isalpha()]
    digits = [sign for sign in signs if sign.isdigit()]
    if sort in ("rule", "rules", "web") and ("[" in body or "<" in body) and last not in "]>":
        opened = re.split(r"[\[<]", body)[-1]
        if last != "*" and not re.search("[a-z]", body):
            # In a part: it is closed with two numbers, or as soon as it can be.
            numbers = opened.split()
            if len(numbers) > 1 or (len(numbers) == 1 and " " not in signs):
                for sign in "]>":
                    if sign in signs:
                        return sign
            if text[-1] != " " and text[-1].isdigit():
                return " "
            return digits[0] if digits else [sign for sign in signs if sign in "]>"][0]
    if sort == "web" and ":" in text:
        return word_sign(text, signs)
    if sort == "web" and letters and (last in "]>" or re.search(r"[\]>][a-z ]*$", text)):
        return word_sign(text, signs)
    for sign in ":[]>|*" if sort == "web" else "]>[:|":
        if sign in signs:
            return sign
    if text[-1:].isdigit() and " " in signs and not (digits and sort == "form" and "form" not in text):
        return " "
    return (digits or letters or [" "])[0]


def word_sign(text, signs):
    """The next sign of a word: one that stands once, if such a one can go on, or a new one that is short."""
    words = re.findall("[a-z]+", re.sub("^ *mod", "", text.split(":")[0]))
    listed = re.findall("[a-z]+", text.split(":")[1]) if ":" in text else []
    begun = re.search("[a-z]*$", text)[0]
    ahead = words[:-1] if begun and ":" not in text else words
    done = listed[:-1] if begun else listed
    once = [word for word in ahead if ahead.count(word) == 1 and word not in done]
    if begun in once or (begun and begun not in ahead and ":" not in text):
        if " " in signs:
            return " "
        if not [sign for sign in signs if sign.isalpha()]:
            return signs[0]
    for word in once:
        if word.startswith(begun) and word[len(begun):len(begun) + 1] in signs and word != begun:
            return word[len(begun)]
    for sign in ":|":
        if sign in signs and not begun:
            return sign
    letters = [sign for sign in signs if sign.isalpha()]
    fresh = [sign for sign in letters if begun + sign not in ahead]
    return (fresh or letters or [" "])[0]
