"""Logs of live webs: texts of rows, one for each deed, that may be cut anywhere."""

from onebasis.errors import BadLive, BadLog, TooMany
from onebasis.lives import PARTS, Live
from onebasis.parttexts import number_of, part_text, parts_of_words

MOST_DIGITS = 3
FIRST_WORD = "live"


def log_of(live):
    """The log of a live web."""
    if not isinstance(live, Live):
        raise BadLive(None)
    rows = [f"{FIRST_WORD} {live.web().prime}"] + [row_of(deed) for deed in live.deeds()]
    return "".join([row + "\n" for row in rows])


def row_of(deed):
    """The row of a deed."""
    return " ".join([deed[0]] + [part_text(kind, part) for kind, part in zip(PARTS[deed[0]], deed[1:])])


def recovered(text):
    """The live web to which the deeds of all whole rows of the text are done."""
    if not isinstance(text, str):
        raise BadLog(None)
    rows = text.split("\n")[:-1]
    if not rows:
        raise BadLog(0)
    live = begun_live(rows[0])
    for at in range(1, len(rows)):
        try:
            live.do(deed_of(rows[at]))
        except (BadLive, TooMany):
            raise BadLog(at) from None
    return live


def begun_live(row):
    """The live web of a log's first row, without places."""
    words = row.split(" ")
    if len(words) != 2 or words[0] != FIRST_WORD:
        raise BadLog(0)
    prime = number_of(words[1], MOST_DIGITS)
    try:
        return Live(prime)
    except BadLive:
        raise BadLog(0) from None


def deed_of(row):
    """The deed of a row; None, which is no deed, if it is no such row."""
    words = row.split(" ")
    kinds = PARTS.get(words[0])
    parts = None if kinds is None else parts_of_words(kinds, words[1:], MOST_DIGITS)
    return None if parts is None else tuple(words[:1] + parts)
