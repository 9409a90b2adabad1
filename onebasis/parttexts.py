"""Parts of deeds as they stand in texts: numbers, legs, ties, tables, bits."""

DIGITS = "0123456789"
NO_BITS = "-"


def part_text(kind, part):
    """A part of a deed as it stands in its text."""
    if kind in ("number", "bit"):
        return str(part)
    if kind == "leg":
        return f"{part[0]}.{part[1]}"
    if kind == "tie":
        return "-".join([part_text("leg", leg) for leg in part])
    if kind == "bits":
        return "".join([str(bit) for bit in part]) if part else NO_BITS
    if kind == "table":
        return ",".join([str(number) for number in part])
    return ";".join([part_text("table", table) for table in part])


def part_of_text(kind, word, digits):
    """The part of a deed that stands there, its numbers of so many digits at most; None if it is no such part."""
    if kind in ("number", "bit"):
        return number_of(word, digits)
    if kind == "tables":
        return all_of("table", word.split(";"), digits)
    if kind == "tie":
        return all_of("leg", word.split("-"), digits, 2)
    if kind == "leg":
        return all_of("number", word.split("."), digits, 2)
    if kind == "bits" and word:
        return () if word == NO_BITS else all_of("number", list(word), 1)
    return all_of("number", word.split(","), digits)


def all_of(kind, words, digits, many=None):
    """The tuple of the parts of this kind that the words are; None if one is none, or if they are not so many."""
    parts = [part_of_text(kind, word, digits) for word in words]
    return None if None in parts or many not in (None, len(parts)) else tuple(parts)


def parts_of_words(kinds, words, digits):
    """The list of the parts of these kinds that the words are; None if they are none."""
    if len(words) != len(kinds):
        return None
    parts = [part_of_text(kind, word, digits) for kind, word in zip(kinds, words)]
    return None if None in parts else parts


def number_of(word, digits):
    """The number of at most so many digits, without leading zeros; None if it is no such number."""
    if not 0 < len(word) <= digits or not all([sign in DIGITS for sign in word]):
        return None
    return None if word[0] == "0" and word != "0" else int(word)
