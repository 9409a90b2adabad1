"""Logs of live webs: texts of rows, one for each deed, that may be cut anywhere."""

from onebasis.errors import BadLive, BadLog, TooMany
from onebasis.lives import PARTS, Live

DIGITS = "0123456789"
MOST_DIGITS = 3
FIRST_WORD = "live"


def log_of(live):
    """The log of a live web."""
    if not isinstance(live, Live):
        raise BadLive(None)
    rows = [f"{FIRST_WORD} {live.web().prime}"] + [row_of(deed) for deed in live.deeds()]
    return "".join([row + "\n" for row in rows])


def row_of(deed):
    """The row of a deed."""
    return " ".join([deed[0]] + [part_text(kind, part) for kind, part in zip(PARTS[deed[0]], deed[1:])])


def part_text(kind, part):
    """A part of a deed as it stands in its row."""
    if kind == "number":
        return str(part)
    if kind == "leg":
        return f"{part[0]}.{part[1]}"
    if kind == "tie":
        return "-".join([part_text("leg", leg) for leg in part])
    if kind == "table":
        return ",".join([str(number) for number in part])
    return ";".join([part_text("table", table) for table in part])


def recovered(text):
    """The live web to which the deeds of all whole rows of the text are done."""
    if not isinstance(text, str):
        raise BadLog(None)
    rows = text.split("\n")[:-1]
    if not rows:
        raise BadLog(0)
    live = begun_live(rows[0])
    for at in range(1, len(rows)):
        try:
            live.do(deed_of(rows[at]))
        except (BadLive, TooMany):
            raise BadLog(at) from None
    return live


def begun_live(row):
    """The live web of a log's first row, without places."""
    words = row.split(" ")
    if len(words) != 2 or words[0] != FIRST_WORD:
        raise BadLog(0)
    prime = number_of(words[1])
    try:
        return Live(prime)
    except BadLive:
        raise BadLog(0) from None


def deed_of(row):
    """The deed of a row; None, which is no deed, if it is no such row."""
    words = row.split(" ")
    kinds = PARTS.get(words[0])
    if kinds is None or len(words) != len(kinds) + 1:
        return None
    parts = [part_of_text(kind, word) for kind, word in zip(kinds, words[1:])]
    return None if None in parts else tuple(words[:1] + parts)


def part_of_text(kind, word):
    """The part of a deed that stands there; None if it is no such part."""
    if kind == "number":
        return number_of(word)
    if kind == "tables":
        return all_of("table", word.split(";"))
    if kind == "tie":
        return all_of("leg", word.split("-"), 2)
    if kind == "leg":
        return all_of("number", word.split("."), 2)
    return all_of("number", word.split(","))


def all_of(kind, words, many=None):
    """The tuple of the parts of this kind that the words are; None if one is none, or if they are not so many."""
    parts = [part_of_text(kind, word) for word in words]
    return None if None in parts or many not in (None, len(parts)) else tuple(parts)


def number_of(word):
    """The number of at most three digits, without leading zeros; None if it is no such number."""
    if not 0 < len(word) <= MOST_DIGITS or not all([sign in DIGITS for sign in word]):
        return None
    return None if word[0] == "0" and word != "0" else int(word)
