"""Questions about webs, and their answers."""

from onebasis.around import around, want_outer_bits
from onebasis.channels import channels, parting
from onebasis.classes import classes
from onebasis.edits import first_word, has_shape, tie_at
from onebasis.entries import is_free
from onebasis.errors import BadBits, BadEntries, BadNumber, BadQuestion, NoForm, NotFlat, NotLet, TooMany
from onebasis.lots import first_basis
from onebasis.rules import ones, worth
from onebasis.shares import share
from onebasis.webs import plain_sum, want_web

QUESTIONS = {
    "sum": ("bits",),
    "around": ("number", "bits"),
    "free": ("number", "bits"),
    "channels": ("number", "number", "bits"),
    "parting": ("number", "number"),
    "share": ("leg", "bit"),
    "classes": (),
    "basis": (),
}


def is_question(thing):
    """Whether any value is a question."""
    return has_shape(QUESTIONS.get(first_word(thing)), thing)


def answered(web, question):
    """The answer to a question about the web."""
    want_web(web)
    if not is_question(question):
        raise BadQuestion("a question is wanted")
    step = ANSWERS[question[0]]
    parts = question[1:]
    try:
        return step(web, *parts)
    except (BadBits, BadEntries, BadNumber, NotLet):
        return "lacks"
    except TooMany:
        return "many"
    except NotFlat:
        return "not flat"
    except NoForm:
        return "no form"


def sum_at(web, bits):
    """The sum at bits."""
    want_outer_bits(web, bits)
    return worth(plain_sum(web), bits)


def table_around(web, place, bits):
    """The table of the rule that stands round the place."""
    return around(web, place, bits).table


def is_idle(web, place, bits):
    """Whether the entry of the place is idle."""
    return is_free(web, [(place, bits)])


def many_channels(web, one, other, bits):
    """How many channels there are."""
    return len(channels(web, one, other, bits)[0])


def many_parting(web, one, other):
    """How many ties part the places."""
    return len(parting(web, one, other))


def table_of_share(web, leg, bit):
    """The table of the share of the leg's tie at the bit."""
    return share(web, [tie_at(web, leg)], (bit,)).table


def words_of_classes(web):
    """The words of the classes of all rules."""
    return ",".join(classes(web.rules)) or "none"


def numbers_of_basis(web):
    """The numbers of the first basis that is good for all rules on the one side and the ties on the other."""
    basis = first_basis(web.prime, web.rules, [ones(web.prime, 2, [1, 0, 1])])
    return "none" if basis is None else basis.rows[0] + basis.rows[1]


ANSWERS = {
    "sum": sum_at,
    "around": table_around,
    "free": is_idle,
    "channels": many_channels,
    "parting": many_parting,
    "share": table_of_share,
    "classes": words_of_classes,
    "basis": numbers_of_basis,
}
