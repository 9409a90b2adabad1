"""Sums in the field of a prime: inverses, and rows brought into reduced form."""


def inverse_of(prime, number):
    """The number whose product with this one is 1; the number is not 0 in the field."""
    old, new = prime, number % prime
    ahead, now = 0, 1
    while new:
        many = old // new
        old, new = new, old - many * new
        ahead, now = now, ahead - many * now
    return ahead % prime


def power_of(number, many):
    """The number times itself, so many times."""
    out = 1
    for _ in range(many):
        out = out * number
    return out


def reduced_rows(prime, rows):
    """The rows of the reduced form: each begins with a 1, further right than the one ahead, 0 elsewhere there."""
    left = [list(row) for row in rows]
    done = []
    for column in range(len(rows[0]) if rows else 0):
        fitting = [k for k, row in enumerate(left) if row[column]]
        if fitting:
            first = led_by_one(prime, left.pop(fitting[0]), column)
            left = [row_less(prime, row, first, column) for row in left]
            done = [row_less(prime, row, first, column) for row in done] + [first]
    return done


def led_by_one(prime, row, column):
    """The row times the number that makes it 1 in the column."""
    number = inverse_of(prime, row[column])
    return [x * number % prime for x in row]


def row_less(prime, row, first, column):
    """The row less as many times first as makes it 0 in the column."""
    many = row[column]
    return [(x - many * y) % prime for x, y in zip(row, first)] if many else row


def null_rows(prime, rows, many):
    """The reduced rows of many numbers whose products with each of rows, added, are 0."""
    reduced = reduced_rows(prime, rows)
    leads = [row.index(1) for row in reduced]
    found = []
    for free in range(many):
        if free not in leads:
            fresh = [0] * many
            fresh[free] = 1
            for lead, row in zip(leads, reduced):
                fresh[lead] = -row[free] % prime
            found.append(fresh)
    return reduced_rows(prime, found)


def least_solution(prime, rows, sums, many):
    """The least row of many numbers whose products with each of rows, added, are the sums; None if there is none."""
    told = reduced_rows(prime, [list(row) + [number] for row, number in zip(rows, sums)])
    out = [0] * many
    for row in told:
        lead = row.index(1)
        if lead == many:
            return None
        out[lead] = row[many]
    # What makes no sum is added so that each of its rows leaves 0 at its lead: no number ahead can be less.
    for row in null_rows(prime, rows, many):
        out = row_less(prime, out, row, row.index(1))
    return out
