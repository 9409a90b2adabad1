"""Stops: lists of numbers by which sums over a rule's worths, a leg flipped at a time, come to 0."""

from onebasis.checks import are_field_numbers, is_list, is_prime
from onebasis.errors import BadForm, BadNumber
from onebasis.fields import led_by_one, null_rows, reduced_rows, row_less
from onebasis.forms import MOST_FORM_LEGS, Form, want_form
from onebasis.legwork import leg_mask
from onebasis.rules import want_rule


def stop_rows(rule):
    """For all bits, ascending: the row of numbers whose products with those of a stop, added, are 0."""
    rows = []
    for bits in range(len(rule.table)):
        row = [0] * (2 * rule.legs)
        sign = 1
        for leg in range(rule.legs):
            mask = leg_mask(rule.legs, leg)
            bit = 1 if bits & mask else 0
            row[2 * leg + bit] = sign * rule.table[bits ^ mask] % rule.prime
            sign = -sign if bit else sign
        rows.append(row)
    return rows


def is_stop(rule, numbers):
    """Whether the numbers are a stop of the rule."""
    want_rule(rule)
    if not are_field_numbers(rule.prime, numbers) or len(numbers) != 2 * rule.legs:
        raise BadNumber("numbers")
    return not any([sum([x * y for x, y in zip(row, numbers)]) % rule.prime for row in stop_rows(rule)])


def stops(rule):
    """The reduced basis of all stops of the rule."""
    want_rule(rule)
    return null_rows(rule.prime, stop_rows(rule), 2 * rule.legs)


def stops_of(form):
    """The reduced basis of all stops of a form of any number of legs."""
    want_form(form)
    many = form.legs
    if form.number == 0:
        return [[1 if k == j else 0 for k in range(2 * many)] for j in range(2 * many)]
    signs = flip_signs(many, form.flips)
    rows = []
    for leg in range(many):
        row = [0] * (2 * many)
        for other in range(many):
            row[2 * other + free_bit(form.flips, other)] = -signs[other] * form.table[leg][other] % form.prime
        row[2 * leg + 1 - free_bit(form.flips, leg)] = signs[leg] % form.prime
        rows.append(row)
    return reduced_rows(form.prime, rows)


def flip_signs(many, flips):
    """For each leg 1, or -1 if an odd number of flips stand ahead of it."""
    return [-1 if len([k for k in flips if k < leg]) & 1 else 1 for leg in range(many)]


def free_bit(flips, leg):
    """The bit that a leg does not have in flips."""
    return 0 if leg in flips else 1


def are_reduced(prime, rows, many):
    """Whether it is a reduced basis of lists of so many numbers of the field."""
    if not all([are_field_numbers(prime, row) and len(row) == many and any(row) for row in rows]):
        return False
    leads = [[k for k, number in enumerate(row) if number][0] for row in rows]
    if not all([leads[k] < leads[k + 1] for k in range(len(leads) - 1)]):
        return False
    return all([row[lead] == (1 if k == j else 0) for k, lead in enumerate(leads) for j, row in enumerate(rows)])


def crossed_sum(prime, one, other):
    """The sum of the products of the numbers of the one with those of the other at the other bit of the leg."""
    pairs = range(0, len(one), 2)
    return sum([one[k] * other[k + 1] + one[k + 1] * other[k] for k in pairs]) % prime


def stopped(prime, rows):
    """The normal form with number 1 whose stops are those of this reduced basis."""
    if not is_prime(prime):
        raise BadForm("prime")
    if not is_list(rows) or len(rows) > MOST_FORM_LEGS or not are_reduced(prime, rows, 2 * len(rows)):
        raise BadForm("rows")
    if any([crossed_sum(prime, one, other) for one in rows for other in rows]):
        raise BadForm("rows")
    flips, told = led_by_legs(prime, rows)
    signs = flip_signs(len(rows), flips)
    table = []
    for leg, row in enumerate(told):
        numbers = [row[2 * other + free_bit(flips, other)] for other in range(len(rows))]
        table.append([-signs[leg] * sign * number % prime for sign, number in zip(signs, numbers)])
    return Form(prime, 1, flips, table)


def led_by_legs(prime, rows):
    """The least flips, and for each leg the sum of rows with 1 at its bit in flips, and 0 there at the other legs."""
    left = [list(row) for row in rows]
    done = []
    flips = []
    for leg in range(len(rows)):
        # One of both bits always leads on, and the lesser one wherever it can be.
        column = 2 * leg if any([row[2 * leg] for row in left]) else 2 * leg + 1
        if column & 1:
            flips.append(leg)
        at = [k for k, row in enumerate(left) if row[column]][0]
        first = led_by_one(prime, left.pop(at), column)
        left = [row_less(prime, row, first, column) for row in left]
        done = [row_less(prime, row, first, column) for row in done] + [first]
    return (tuple(flips), done)
