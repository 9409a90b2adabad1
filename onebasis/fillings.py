"""Fillings of a web: a bit on each outer leg and each tie, numbered with the first outer leg highest.

A row tells a number for each filling, so that those with the same bits at the outer legs stand together.
"""

from onebasis.checks import MOST_FILLED
from onebasis.errors import TooMany
from onebasis.legwork import leg_mask, sums_of


def want_few(web):
    """Refuses a web of too many ties and outer legs to go through all fillings."""
    if len(web.ties) + len(web.outer) > MOST_FILLED:
        raise TooMany(MOST_FILLED)


def filled_places(web):
    """For each place the row of the numbers of the bits that its legs have."""
    wires = [[leg] for leg in web.outer] + [list(tie) for tie in web.ties]
    return [sums_of([wire_mask(web, place, wire) for wire in wires], 0) for place in range(len(web.rules))]


def wire_mask(web, place, wire):
    """What a bit 1 on the wire adds to the number of the bits at the place."""
    return sum([leg_mask(web.rules[place].legs, leg) for at, leg in wire if at == place])


def times_row(prime, row, table, filled):
    """The row with each number times that of the table at the place's bits."""
    return [number * table[k] % prime for number, k in zip(row, filled)]


def one_row(web):
    """The row that is 1 for all fillings."""
    return [1] * (1 << (len(web.ties) + len(web.outer)))


def outer_sums(web, row):
    """For all bits at the outer legs, ascending: the sum of the row over the bits on the ties."""
    size = 1 << len(web.ties)
    return [sum(row[k * size:(k + 1) * size]) % web.prime for k in range(1 << len(web.outer))]


def filling_sums(web):
    """For all bits at the outer legs, ascending: the sum at them."""
    return outer_sums(web, row_without(web, filled_places(web), []))


def row_without(web, filled, places):
    """The row of the products of what all rules are worth but those at these places."""
    row = one_row(web)
    for place, rule in enumerate(web.rules):
        if place not in places:
            row = times_row(web.prime, row, rule.table, filled[place])
    return row


def rows_without(web, filled):
    """For each place the row of the products of what all other rules are worth."""
    behind_rows = [one_row(web)]
    for place in reversed(range(1, len(filled))):
        behind_rows.append(times_row(web.prime, behind_rows[-1], web.rules[place].table, filled[place]))
    behind_rows.reverse()
    ahead = one_row(web)
    rows = []
    for place, later in enumerate(behind_rows[:len(filled)]):
        rows.append([x * y % web.prime for x, y in zip(ahead, later)])
        ahead = times_row(web.prime, ahead, web.rules[place].table, filled[place])
    return rows


def surrounding_tables(web, place, filled, row):
    """For all bits at the outer legs, ascending: the table that the row sums up to at the place's bits."""
    size = 1 << len(web.ties)
    tables = []
    for many in range(1 << len(web.outer)):
        table = [0] * len(web.rules[place].table)
        for k in range(many * size, (many + 1) * size):
            table[filled[k]] += row[k]
        tables.append([number % web.prime for number in table])
    return tables
