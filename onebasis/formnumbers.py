"""The rules that have forms, numbered by their normal forms."""

from onebasis.checks import is_from, is_prime
from onebasis.errors import BadForm, BadNumber
from onebasis.fields import power_of
from onebasis.forms import MOST_FORM_LEGS, Form
from onebasis.normals import normal
from onebasis.skews import set_pair


def tables_behind(prime, legs, leg):
    """How many choices of flips and of the table's numbers there are at the last legs, from leg on."""
    out = 1
    for k in range(leg, legs):
        out = out * (power_of(prime, legs - 1 - k) + 1)
    return out


def how_many_forms(prime, legs):
    """How many rules with so many legs have a form."""
    if not is_prime(prime):
        raise BadForm("prime")
    if not is_from(legs, 0, MOST_FORM_LEGS):
        raise BadNumber("legs")
    return 1 + (prime - 1) * tables_behind(prime, legs, 0)


def free_pairs(legs, flips):
    """The places (i, j) at which the table of a normal form with these flips may have any number."""
    return [(i, j) for i in range(legs) if i not in flips for j in range(i + 1, legs)]


def form_at(prime, legs, number):
    """The normal form with this number."""
    if not is_from(number, 0, how_many_forms(prime, legs) - 1):
        raise BadNumber("number")
    table = [[0] * legs for _ in range(legs)]
    if number == 0:
        return Form(prime, 0, (), table)
    left = number - 1
    flips = []
    fitting = prime - 1
    for leg in range(legs):
        without = fitting * power_of(prime, legs - 1 - leg)
        size = without * tables_behind(prime, legs, leg + 1)
        if left >= size:
            left -= size
            flips.append(leg)
        else:
            fitting = without
    pairs = free_pairs(legs, flips)
    for i, j in reversed(pairs):
        left, digit = divmod(left, prime)
        set_pair(prime, table, i, j, digit)
    return Form(prime, left + 1, tuple(flips), table)


def form_number(form):
    """The number of the rule of a form."""
    told = normal(form)
    if told.number == 0:
        return 0
    out = 1
    fitting = told.prime - 1
    for leg in range(told.legs):
        without = fitting * power_of(told.prime, told.legs - 1 - leg)
        if leg in told.flips:
            out += without * tables_behind(told.prime, told.legs, leg + 1)
        else:
            fitting = without
    within = told.number - 1
    for i, j in free_pairs(told.legs, told.flips):
        within = within * told.prime + told.table[i][j]
    return out + within
