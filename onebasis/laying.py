"""All rules of a web laid out along a line, as one form."""

from onebasis.errors import BadLine, TooMany
from onebasis.forms import MOST_FORM_LEGS
from onebasis.lines import is_line
from onebasis.normals import form_of_skew, skew_of
from onebasis.skews import Skew, turned_skew
from onebasis.webforms import forms_of


def want_line(web, line):
    """Refuses what is no Web, and what is no line of it."""
    if not is_line(web, line):
        raise BadLine("a line of the web is wanted")


def want_short(line):
    """Refuses more legs than a form has."""
    if len(line) > MOST_FORM_LEGS:
        raise TooMany(MOST_FORM_LEGS)


def laid(web, line):
    """A form with the legs of the line whose worth is the product of what the rules are worth."""
    want_line(web, line)
    skew = laid_skew(web, line)
    want_short(line)
    return form_of_skew(skew)


def laid_skew(web, line):
    """The same for any number of legs, as a skew."""
    number = 1
    marks = [0] * len(line)
    table = [[0] * len(line) for _ in line]
    spots = [[] for _ in web.rules]
    for at, (place, _) in enumerate(line):
        spots[place].append(at)
    # Between two legs of a place stand all legs of other places or none, so that signs stay as they are.
    for spot, form in zip(spots, forms_of(web)):
        number = number * form.number % web.prime
        skew = turned_skew(skew_of(form), line[spot[0]][1] if spot else 0)
        for i, mark, row in zip(spot, skew.marks, skew.table):
            marks[i] = mark
            for j, told in zip(spot, row):
                table[i][j] = told
    return Skew(web.prime, number, marks, table)
