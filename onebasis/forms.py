"""Forms: a number, flips and a skew table that tell the worths of a rule."""

from onebasis.checks import MOST_LEGS, are_ascending, are_bits, is_field_number, is_prime
from onebasis.errors import BadBits, BadForm, TooMany
from onebasis.legwork import leg_mask
from onebasis.pfaffians import is_skew, skew_pfaffian, sub_pfaffians
from onebasis.rules import Rule

MOST_FORM_LEGS = 60


class Form:
    """A number, flips and a skew table over the field of a prime."""

    def __init__(self, prime, number, flips, table):
        if not is_prime(prime):
            raise BadForm("prime")
        if not is_skew(prime, table, MOST_FORM_LEGS):
            raise BadForm("table")
        if not is_field_number(prime, number):
            raise BadForm("number")
        if not isinstance(flips, tuple) or not are_ascending(flips, len(table) - 1):
            raise BadForm("flips")
        self.prime = prime
        self.legs = len(table)
        self.number = number
        self.flips = tuple(flips)
        self.table = tuple([tuple(row) for row in table])

    def __eq__(self, other):
        if not isinstance(other, Form) or self.prime != other.prime or self.number != other.number:
            return False
        return self.flips == other.flips and self.table == other.table


def want_form(form):
    """Refuses what is no Form."""
    if not isinstance(form, Form):
        raise BadForm(None)


def form_worth(form, bits):
    """The number of the form at a tuple of bits."""
    want_form(form)
    if not are_bits(bits, form.legs):
        raise BadBits("as many bits as legs are wanted")
    legs = [k for k, bit in enumerate(bits) if (k in form.flips) != (bit == 1)]
    if len(legs) & 1:
        return 0
    return form.number * skew_pfaffian(form.prime, [[form.table[i][j] for j in legs] for i in legs]) % form.prime


def rule_of(form):
    """The rule with the worths of the form."""
    want_form(form)
    if form.legs > MOST_LEGS:
        raise TooMany(MOST_LEGS)
    base = sum([leg_mask(form.legs, k) for k in form.flips])
    told = sub_pfaffians(form.prime, form.table)
    return Rule(form.prime, [form.number * told[k ^ base] % form.prime for k in range(len(told))])
