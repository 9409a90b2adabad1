"""Texts read token by token: what has been read, and which tokens may come behind it.

What has been read of a text is a dict: its sort and the step that comes next; the prime and the numbers of its field as
they are written; how many rules have been begun; of the rule that is being read the legs of its closed parts, the sign
and how many numbers its open part has; of a form what has been told of it; of a web how many legs of the place still
have no word, and how often each word stands.
"""

from onebasis.checks import MOST_LEGS, MOST_PLACES, MOST_TIES, is_prime
from onebasis.forms import MOST_FORM_LEGS
from onebasis.tokens import DIGITS, LETTERS, is_word

MOST_LETTERS = 12
AHEAD = {"rule": "part", "rules": "words", "form": "form", "web": "words"}
KEYWORDS = {"mod": "prime", "form": "size"}
COLONS = {"behind size": "scale", "behind scale": "flips", "flips": "pairs"}


def first_reading(sort):
    """What has been read of a text of this sort ahead of its first token."""
    return {"sort": sort, "step": "mod", "prime": 0, "field": [], "places": 0, "legs": 0, "sign": "", "many": 0,
            "size": 0, "least": 0, "left": 0, "words": {}, "once": 0, "twice": 0}


def changed_reading(reading, fresh):
    """What has been read, with these entries in the place of its own."""
    told = {key: reading[key] for key in reading}
    for key in fresh:
        told[key] = fresh[key]
    return told


def behind_token(reading, token):
    """What has been read behind this token; None if no text goes on with it."""
    if token[0] in DIGITS:
        return behind_number(reading, token) if token in numbers_at(reading) else None
    fresh = behind_word(reading, token) if is_word(token) else behind_sign(reading, token)
    return fresh if fresh is not None and can_go_on(fresh) else None


def may_begin(reading, token):
    """Whether a token that begins so, or is just this one, can come next."""
    if token[0] in DIGITS:
        return any([number.startswith(token) for number in numbers_at(reading)])
    if not is_word(token):
        return behind_token(reading, token) is not None
    if reading["step"] in KEYWORDS:
        return reading["step"].startswith(token)
    if reading["step"] == "outer":
        return any([word.startswith(token) for word in reading["words"]])
    return may_begin_leg(reading, token)


def is_whole(reading):
    """Whether what has been read is a text."""
    if reading["sort"] == "web":
        return reading["step"] == "outer" and len(reading["words"]) == 0
    if reading["sort"] == "form":
        return reading["step"] == "pairs" and reading["many"] == many_pairs(reading)
    return reading["step"] == "parted"


def many_pairs(reading):
    """How many numbers the text of a form has in the end."""
    return reading["size"] * (reading["size"] - 1) // 2


def numbers_at(reading):
    """The list of the numbers, as they are written, that can come next."""
    step = reading["step"]
    if step == "prime":
        return [str(number) for number in range(100) if is_prime(number)]
    if step == "size":
        return [str(number) for number in range(MOST_FORM_LEGS + 1)]
    if step == "flips":
        return [str(number) for number in range(reading["least"], reading["size"])]
    if step == "scale" or (step == "pairs" and reading["many"] < many_pairs(reading)):
        return reading["field"]
    if step == "numbers" and can_go_on(changed_reading(reading, {"many": reading["many"] + 1})):
        return reading["field"]
    return []


def behind_number(reading, token):
    """What has been read behind a number that can come next."""
    step = reading["step"]
    if step == "prime":
        field = [str(number) for number in range(int(token))]
        return changed_reading(reading, {"step": AHEAD[reading["sort"]], "prime": int(token), "field": field})
    if step == "size":
        return changed_reading(reading, {"step": "behind size", "size": int(token)})
    if step == "scale":
        return changed_reading(reading, {"step": "behind scale"})
    if step == "flips":
        return changed_reading(reading, {"least": int(token) + 1})
    return changed_reading(reading, {"many": reading["many"] + 1})


def behind_word(reading, token):
    """What has been read behind a word, where it may stand."""
    step = reading["step"]
    if step in KEYWORDS:
        return changed_reading(reading, {"step": KEYWORDS[step]}) if token == step else None
    if step == "outer":
        words = {word: reading["words"][word] for word in reading["words"] if word != token}
        return changed_reading(reading, {"words": words}) if token in reading["words"] else None
    stood = reading["words"].get(token, 0)
    if reading["sort"] != "web" or stood == 2 or len(token) > MOST_LETTERS or legs_without(reading) < 1:
        return None
    return behind_leg(reading, token, stood)


def legs_without(reading):
    """How many legs of the place have no word, if words come next; -1 if none can."""
    if reading["step"] == "parted":
        return reading["legs"]
    return reading["left"] if reading["step"] == "words" else -1


def behind_leg(reading, token, stood):
    """What has been read behind the word of a leg that stood so often."""
    words = {word: reading["words"][word] for word in reading["words"]}
    words[token] = stood + 1
    once, twice = (reading["once"] - 1, reading["twice"] + 1) if stood else (reading["once"] + 1, reading["twice"])
    left = legs_without(reading) - 1
    return changed_reading(reading, {"step": "words", "left": left, "words": words, "once": once, "twice": twice})


def may_begin_leg(reading, token):
    """Whether the word of a leg can begin so: one that stands once and may be closed, or a new one."""
    if reading["sort"] != "web" or legs_without(reading) < 1:
        return False
    begun = [word for word in reading["words"] if word.startswith(token)]
    once = [word for word in begun if reading["words"][word] == 1]
    if once and can_go_on(behind_leg(reading, once[0], 1)):
        return True
    new, more = 0, 1
    for _ in range(MOST_LETTERS - len(token) + 1):
        new, more = new + more, more * len(LETTERS)
    return len(begun) < new and can_go_on(behind_leg(reading, token, 0))


def behind_sign(reading, token):
    """What has been read behind a sign, where it may stand."""
    step = reading["step"]
    if step == "part" and token in ("[", "<"):
        return changed_reading(reading, {"step": "numbers", "sign": token, "many": 0})
    if step == "numbers" and token == {"[": "]", "<": ">"}[reading["sign"]] and is_part_whole(reading):
        legs = reading["legs"] + least_legs(reading)
        return changed_reading(reading, {"step": "parted", "legs": legs})
    if step == "parted" and token == "*":
        return changed_reading(reading, {"step": "part"})
    if token == ":" and step in COLONS:
        return changed_reading(reading, {"step": COLONS[step]})
    if reading["sort"] == "rules" and step in ("words", "parted") and token == "|":
        return with_place(reading)
    if reading["sort"] == "web" and legs_without(reading) == 0:
        return behind_place(reading, token)
    return None


def is_part_whole(reading):
    """Whether the open part has as many numbers as a part may have."""
    many = reading["many"]
    return many > 0 and (reading["sign"] == "<" or many == 1 << least_legs(reading))


def least_legs(reading):
    """The fewest legs that the open part can come to."""
    many = max(0, reading["many"] - 1)
    return many if reading["sign"] == "<" else many.bit_length()


def with_place(reading):
    """What has been read behind the sign ahead of one more rule."""
    if reading["places"] == MOST_PLACES:
        return None
    return changed_reading(reading, {"step": "part", "places": reading["places"] + 1, "legs": 0})


def behind_place(reading, token):
    """What has been read behind a sign behind a whole place of a web, or ahead of all places."""
    if token == "|":
        return with_place(reading)
    if token != ":" or reading["once"] > MOST_LEGS:
        return None
    words = {word: 1 for word in reading["words"] if reading["words"][word] == 1}
    return changed_reading(reading, {"step": "outer", "words": words})


def can_go_on(reading):
    """Whether some text goes on so, what is read of the tokens being what may stand there."""
    least, most = legs_to_come(reading)
    ahead = MOST_LEGS * (MOST_PLACES - reading["places"])
    for many in range(least, most + 1):
        for outer in range(MOST_LEGS + 1):
            if is_fulfilled(reading, many, outer, ahead):
                return True
    return False


def legs_to_come(reading):
    """The pair of the fewest and the most legs of the place that is being read that can still come without a word."""
    if reading["step"] == "numbers":
        return (reading["legs"] + least_legs(reading), MOST_LEGS)
    if reading["step"] in ("part", "parted"):
        return (reading["legs"], MOST_LEGS)
    return (reading["left"], reading["left"])


def is_fulfilled(reading, many, outer, ahead):
    """Whether there may be so many outer legs, with so many legs to come here and at most so many at places ahead."""
    once = reading["once"]
    further = max(0, abs(outer - once) - many)
    further += (further + outer + once + many) & 1
    return further <= ahead and once + 2 * reading["twice"] + many + further - outer <= 2 * MOST_TIES
