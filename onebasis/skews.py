"""Forms of any number of legs while they are worked with: turned, put beside one another, closed.

The worth at bits is number times the Pfaffian of table on the legs whose bit is not their mark.
"""

from onebasis.fields import inverse_of
from onebasis.legwork import leg_mask
from onebasis.pfaffians import first_not_zero, sub_pfaffians


class Skew:
    """A number, a mark (0 or 1) for each leg, and a skew table over the field of a prime."""

    def __init__(self, prime, number, marks, table):
        self.prime = prime
        self.number = number
        self.marks = marks
        self.table = table


def zero_skew(prime, legs):
    """What is worth 0 at all bits."""
    return Skew(prime, 0, [0] * legs, [[0] * legs for _ in range(legs)])


def single_skew(prime, legs):
    """What is worth 1 at all bits with just one 1, and 0 elsewhere."""
    if legs == 0:
        return zero_skew(prime, 0)
    table = [[0] * (legs - 1) + [1] for _ in range(legs - 1)]
    return Skew(prime, 1, [0] * (legs - 1) + [1], table + [[prime - 1] * (legs - 1) + [0]])


def skew_worths(skew):
    """The list of the worths at all bits, ascending."""
    many = len(skew.marks)
    base = sum([leg_mask(many, k) for k, mark in enumerate(skew.marks) if mark])
    told = sub_pfaffians(skew.prime, skew.table)
    return [skew.number * told[k ^ base] % skew.prime for k in range(len(told))]


def turned_skew(skew, many):
    """The same with its first many legs behind the others."""
    legs = list(range(many, len(skew.marks))) + list(range(many))
    # A leg that goes behind all others passes an odd number of those of a Pfaffian that is not 0.
    signs = [1] * (len(legs) - many) + [-1] * many
    table = [[s * t * skew.table[i][j] % skew.prime for t, j in zip(signs, legs)] for s, i in zip(signs, legs)]
    return Skew(skew.prime, skew.number, [skew.marks[k] for k in legs], table)


def mirrored_skew(skew):
    """The same with its legs in the reverse sequence."""
    # Two legs exchanged, that is the other sign, make up for the sign of an even number of legs reversed.
    legs = list(reversed(range(len(skew.marks))))
    table = [[skew.table[j][i] for j in legs] for i in legs]
    return Skew(skew.prime, skew.number, [skew.marks[k] for k in legs], table)


def beside_skews(skew, other):
    """The legs of the one, then those of the other; the worth is the product."""
    table = [list(row) + [0] * len(other.marks) for row in skew.table]
    table = table + [[0] * len(skew.marks) + list(row) for row in other.table]
    return Skew(skew.prime, skew.number * other.number % skew.prime, skew.marks + other.marks, table)


def closed_skew(skew, leg, weight):
    """The sum of the worth with 0 at leg and the next one, and weight times that with 1 at both."""
    alpha, beta = (weight, 1) if skew.marks[leg] else (1, weight)
    if skew.marks[leg] != skew.marks[leg + 1]:
        return closed_unlike(skew, leg, beta, alpha)
    total = (alpha + beta * skew.table[leg][leg + 1]) % skew.prime
    if total:
        return closed_alike(skew, leg, total, beta)
    # The worth at the marks of the others is 0, so other marks are wanted.
    table = [list(row) for row in skew.table]
    table[leg][leg + 1] = table[leg + 1][leg] = 0
    return forced(Skew(skew.prime, skew.number * beta % skew.prime, skew.marks, table), [leg, leg + 1])


def closed_alike(skew, leg, total, beta):
    """Closed over two legs of one mark, where total is not 0."""
    prime = skew.prime
    many = beta * inverse_of(prime, total) % prime
    first, second = without_legs(skew.table[leg], [leg, leg + 1]), without_legs(skew.table[leg + 1], [leg, leg + 1])
    left = [without_legs(row, [leg, leg + 1]) for row in without_legs(skew.table, [leg, leg + 1])]
    table = []
    for u, v, row in zip(first, second, left):
        table.append([(x + many * (v * y - u * z)) % prime for x, y, z in zip(row, first, second)])
    return Skew(prime, skew.number * total % prime, without_legs(skew.marks, [leg, leg + 1]), table)


def closed_unlike(skew, leg, first, second):
    """Closed over two legs of unlike marks: first times the leg's row and second times the next one's make one."""
    prime = skew.prime
    row = [(first * x + second * y) % prime for x, y in zip(skew.table[leg], skew.table[leg + 1])]
    row[leg] = 0
    table = [list(told) for told in skew.table]
    table[leg] = list(row)
    for k, number in enumerate(row):
        table[k][leg] = -number % prime
    table = [without_legs(told, [leg + 1]) for told in without_legs(table, [leg + 1])]
    return forced(Skew(prime, skew.number, without_legs(skew.marks, [leg + 1]), table), [leg])


def set_skew_leg(skew, leg, bit):
    """Without a leg, which has this bit."""
    if bit != skew.marks[leg]:
        return forced(skew, [leg])
    table = [without_legs(row, [leg]) for row in without_legs(skew.table, [leg])]
    return Skew(skew.prime, skew.number, without_legs(skew.marks, [leg]), table)


def without_legs(row, legs):
    """What is left of a list without the places of these legs."""
    return [x for k, x in enumerate(row) if k not in legs]


def forced(skew, legs):
    """Without these legs, all of which are among those of each Pfaffian."""
    for leg in legs:
        row = [0 if k in legs else x for k, x in enumerate(skew.table[leg])]
        other = first_not_zero(row)
        if other is None:
            return zero_skew(skew.prime, len(row) - len(legs))
        skew = remarked(skew, min(leg, other), max(leg, other))
    table = [without_legs(row, legs) for row in without_legs(skew.table, legs)]
    return Skew(skew.prime, skew.number, without_legs(skew.marks, legs), table)


def remarked(skew, one, other):
    """The same worths with the other marks at two legs, one < other, where the table is not 0."""
    prime, first, second = skew.prime, skew.table[one], skew.table[other]
    inverse = inverse_of(prime, first[other])
    signs = [-1 if one < k < other else 1 for k in range(len(first))]
    # The Pfaffian on both legs and on x, y is a sum of three products; the signs tell how many of them are passed.
    table = []
    for x, row in enumerate(skew.table):
        u, v, s = first[x] * inverse, second[x] * inverse, signs[x]
        table.append([s * t * (w + v * y - u * z) % prime for t, w, y, z in zip(signs, row, first, second)])
    for x, sign in enumerate(signs):
        set_pair(prime, table, one, x, sign * second[x] * inverse)
        set_pair(prime, table, other, x, sign * first[x] * inverse)
    set_pair(prime, table, one, other, inverse)
    table[one][one] = table[other][other] = 0
    marks = [1 - mark if k in (one, other) else mark for k, mark in enumerate(skew.marks)]
    return Skew(prime, skew.number * first[other] % prime, marks, table)


def set_pair(prime, table, one, other, number):
    """Puts a number into a skew table, and its negative at the other side."""
    table[one][other] = number % prime
    table[other][one] = -number % prime
