"""Skew tables and their Pfaffians."""

from onebasis.checks import are_field_numbers, is_list, is_prime
from onebasis.errors import BadForm
from onebasis.fields import inverse_of
from onebasis.legwork import leg_mask

MOST_LISTS = 400


def is_skew(prime, things, most):
    """Whether it is a skew table of at most so many lists."""
    if not is_list(things) or len(things) > most:
        return False
    many = len(things)
    if not all([are_field_numbers(prime, row) and len(row) == many for row in things]):
        return False
    if any([things[k][k] for k in range(many)]):
        return False
    return not any([(things[i][j] + things[j][i]) % prime for i in range(many) for j in range(i)])


def pfaffian(prime, table):
    """The Pfaffian of a skew table."""
    if not is_prime(prime):
        raise BadForm("prime")
    if not is_skew(prime, table, MOST_LISTS):
        raise BadForm("table")
    return skew_pfaffian(prime, table)


def skew_pfaffian(prime, table):
    """The Pfaffian, by taking away the first two rows and columns again and again."""
    rows = [list(row) for row in table]
    out = 1
    while rows:
        at = first_not_zero(rows[0])
        if at is None:
            return 0
        if at != 1:
            exchange(rows, 1, at)
            out = -out
        out = out * rows[0][1] % prime
        rows = without_two(prime, rows)
    return out % prime


def first_not_zero(row):
    """The place of the first number in the row that is not 0; None if there is none."""
    for k, number in enumerate(row):
        if number:
            return k
    return None


def exchange(rows, one, other):
    """Exchanges two rows and the same two columns."""
    rows[one], rows[other] = rows[other], rows[one]
    for row in rows:
        row[one], row[other] = row[other], row[one]


def without_two(prime, rows):
    """The table without its first two legs whose Pfaffian, times the number at (0, 1), is that of rows."""
    inverse = inverse_of(prime, rows[0][1])
    first = [x * inverse % prime for x in rows[0][2:]]
    second = rows[1][2:]
    left = []
    for k, row in enumerate(rows[2:]):
        u, v = first[k], second[k]
        if u or v:
            left.append([(x + v * y - u * z) % prime for x, y, z in zip(row[2:], first, second)])
        else:
            left.append(row[2:])
    return left


def left_rows(prime, table, inner):
    """A number, a skew table and how many of inner are left, of a table of which inner, ascending, are always taken.

    The Pfaffian on all of inner and on some others is the number times that of the rows that are left, on those of
    inner that stand first there and on the same others behind them.
    """
    rows = inner_first(table, inner)
    number, many = 1, len(inner)
    fresh = many
    while fresh:
        at = first_not_zero(rows[0][1:fresh])
        if at is None:
            # A row that is 0 at all of inner stays so, and waits behind the others. If it passes an odd number of rows
            # there is a sign; but then many is even, and so is at last how many rows wait: the signs make up for it.
            rows = [row[1:many] + row[:1] + row[many:] for row in rows[1:many] + rows[:1] + rows[many:]]
            fresh -= 1
        else:
            if at:
                exchange(rows, 1, at + 1)
                number = -number
            number = number * rows[0][1] % prime
            rows = without_two(prime, rows)
            many, fresh = many - 2, fresh - 2
    return (number % prime, rows, many)


def inner_first(table, inner):
    """The table with the rows and columns of inner ahead of the others, with signs that keep the Pfaffians."""
    held = {k: True for k in inner}
    order = list(inner)
    signs = [1] * len(inner)
    met = 0
    for k in range(len(table)):
        if k in held:
            met += 1
        else:
            # What goes behind all of inner passes those that stood behind it.
            order.append(k)
            signs.append(-1 if (len(inner) - met) & 1 else 1)
    return [[s * t * table[i][j] for t, j in zip(signs, order)] for s, i in zip(signs, order)]


def sub_pfaffians(prime, table):
    """For all bits, ascending: the Pfaffian of the rows and columns of the legs with bit 1."""
    many = len(table)
    found = [1]
    # The legs are put in from the last one on: each doubles the list, in which it is the first leg of the later half.
    for leg in reversed(range(many)):
        found = found + [by_first_leg(prime, table, found, leg, bits) for bits in range(len(found))]
    return found


def by_first_leg(prime, table, found, leg, bits):
    """The Pfaffian of leg and the later legs with bit 1, where found tells those of later legs alone."""
    total = 0
    sign = 1
    for other in range(leg + 1, len(table)):
        mask = leg_mask(len(table), other)
        if bits & mask:
            total += sign * table[leg][other] * found[bits - mask]
            sign = -sign
    return total % prime
