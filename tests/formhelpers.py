"""Pfaffians and worths of forms straight from the words of the document, and made-up forms, for the tests."""

from itertools import product

from onebasis.forms import Form
from onebasis.rules import Rule


def plain_pfaffian(table, prime):
    """The sum over j of signs, numbers (0, j) and Pfaffians without 0 and j."""
    many = len(table)
    if many % 2:
        return 0
    if many == 0:
        return 1
    total = 0
    for j in range(1, many):
        left = [k for k in range(many) if k not in (0, j)]
        total += (-1) ** (j + 1) * table[0][j] * plain_pfaffian([[table[x][y] for y in left] for x in left], prime)
    return total % prime


def plain_worth(form, bits):
    legs = [k for k in range(form.legs) if (bits[k] == 1) != (k in form.flips)]
    return form.number * plain_pfaffian([[form.table[i][j] for j in legs] for i in legs], form.prime) % form.prime


def plain_rule_of(form):
    return Rule(form.prime, [plain_worth(form, bits) for bits in product((0, 1), repeat=form.legs)])


def some_skew(chance, prime, many, zeros=0):
    """A made-up skew table, with so many zeros in each seven numbers."""
    table = [[0] * many for _ in range(many)]
    for i in range(many):
        for j in range(i):
            number = chance.randrange(prime) if chance.randrange(7) >= zeros else 0
            table[i][j], table[j][i] = number, -number % prime
    return table


def some_form(chance, prime, legs, zeros=0):
    flips = tuple(k for k in range(legs) if chance.randrange(2))
    return Form(prime, chance.randrange(1, prime), flips, some_skew(chance, prime, legs, zeros))


def some_formed_rule(chance, prime, legs):
    """A made-up rule that has a form."""
    return plain_rule_of(some_form(chance, prime, legs, chance.choice((0, 3, 5))))


def plain_identity(rule, bits, legs):
    """The sum of the identity, with the worths read off the table by tuples of bits."""
    worths = dict(zip(product((0, 1), repeat=rule.legs), rule.table))

    def flipped_at(places):
        return tuple(1 - bit if k in places else bit for k, bit in enumerate(bits))

    total = 0
    for i, leg in enumerate(legs, start=1):
        total += (-1) ** i * worths[flipped_at([leg])] * worths[flipped_at([p for p in legs if p != leg])]
    return total % rule.prime


def every_identity(legs):
    """All pairs (bits, legs), the least first."""
    lots = [tuple(k for k, bit in enumerate(bits) if bit) for bits in product((0, 1), repeat=legs)]
    lots = sorted([lot for lot in lots if lot], key=lambda lot: (len(lot), lot))
    return [(bits, lot) for lot in lots for bits in product((0, 1), repeat=legs)]


def some_full_rule(chance, prime, legs):
    """A made-up rule that has a form whose table has few zeros."""
    return plain_rule_of(some_form(chance, prime, legs))


def some_even_rule(chance, prime, legs):
    """A made-up rule with a form that is not 0 at bits of zeros, so that sums of webs of such are 0 less often."""
    return plain_rule_of(Form(prime, chance.randrange(1, prime), (), some_skew(chance, prime, legs)))


def some_bits(chance, many):
    return tuple(chance.randrange(2) for _ in range(many))


def heavy_bits(chance, form):
    """Bits at which the worth of a form of many legs is quite sure not to be 0."""
    bits = list(some_bits(chance, form.legs))
    if (sum(bits) + len(form.flips)) % 2:
        bits[chance.randrange(form.legs)] ^= 1
    return tuple(bits)


def zero_form(prime, legs):
    return Form(prime, 0, (), [[0] * legs for _ in range(legs)])


def plainly_normal(form):
    """Whether a form of few legs is normal, straight from the words of the document."""
    heavy = [bits for bits in product((0, 1), repeat=form.legs) if plain_worth(form, bits)]
    if not heavy:
        return form == zero_form(form.prime, form.legs)
    return form.flips == tuple(k for k, bit in enumerate(min(heavy)) if bit)
