"""Boards: one skew table for a whole web, whose Pfaffians tell the sum.

The spots of a board are the legs of a line, and marks: the unlike ties themselves, each behind its first leg.
"""

from onebasis.laying import laid_skew, want_line, want_short
from onebasis.legwork import bits_of
from onebasis.pfaffians import left_rows, skew_pfaffian
from onebasis.rules import Rule


def board_of(web, line):
    """A board of the web along the line."""
    want_line(web, line)
    board = made_board(web, line)
    want_short(line)
    return board


def made_board(web, line):
    """A board for any number of legs."""
    skew = laid_skew(web, line)
    where = {leg: k for k, leg in enumerate(line)}
    spans = sorted([sorted([where[one], where[other]]) for one, other in web.ties])
    unlike = [span for span in spans if skew.marks[span[0]] != skew.marks[span[1]]]
    marked = {line[low]: tuple(sorted([line[low], line[high]])) for low, high in unlike}
    spots = []
    for leg in line:
        spots.append(leg)
        if leg in marked:
            spots.append(marked[leg])
    table = wide_table(skew.table, {leg: k for k, leg in enumerate(spots)}, line)
    at = {spot: k for k, spot in enumerate(spots)}
    for low, high in spans:
        sign = -1 if len([1 for one, other in unlike if low < one and other < high]) & 1 else 1
        first, second = at[line[low]], at[line[high]]
        if line[low] in marked:
            add_pair(web.prime, table, first, first + 1, 1)
            first += 1
        add_pair(web.prime, table, first, second, sign)
    flips = [leg for leg, mark in zip(line, skew.marks) if mark]
    return {"flips": flips, "number": skew.number, "spots": spots, "table": table}


def wide_table(table, at, line):
    """The table over all spots with the numbers of the table over the line, at telling where a spot stands."""
    wide = [[0] * len(at) for _ in at]
    for leg, row in zip(line, table):
        for other, number in zip(line, row):
            wide[at[leg]][at[other]] = number
    return wide


def add_pair(prime, table, one, other, number):
    """Adds a number to a skew table, and takes it away at the other side."""
    table[one][other] = (table[one][other] + number) % prime
    table[other][one] = (table[other][one] - number) % prime


def board_sum(web, line):
    """The sum of the web, from a board along the line."""
    want_line(web, line)
    board = made_board(web, line)
    outer = {leg: True for leg in web.outer}
    inner = [k for k, spot in enumerate(board["spots"]) if spot not in outer]
    number, rows, many = left_rows(web.prime, board["table"], inner)
    number = number * board["number"] % web.prime
    if number == 0 or many > len(web.outer):
        return Rule(web.prime, [0] * (1 << len(web.outer)))
    # The outer legs stand in a line in their sequence.
    flips = [leg in board["flips"] for leg in web.outer]
    worths = []
    for k in range(1 << len(web.outer)):
        bits = bits_of(k, len(web.outer))
        taken = [many + j for j, bit in enumerate(bits) if flips[j] != (bit == 1)]
        taken = list(range(many)) + taken
        worths.append(number * skew_pfaffian(web.prime, [[rows[i][j] for j in taken] for i in taken]) % web.prime)
    return Rule(web.prime, worths)
