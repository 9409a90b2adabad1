"""How much two places of a web tell one another: the sum across them, its channels, and the ties between them."""

from onebasis.around import want_outer_bits, want_place
from onebasis.errors import BadNumber
from onebasis.fields import reduced_rows
from onebasis.fillings import filled_places, row_without, want_few
from onebasis.flows import greatest_flow, greatest_paths
from onebasis.legwork import bits_number
from onebasis.rules import Rule
from onebasis.webs import want_web


def want_two_places(web, one, other):
    """Refuses what is no Web, and what are no two places of it."""
    want_web(web)
    want_place(web, one, "one")
    want_place(web, other, "other")
    if other == one:
        raise BadNumber("other")


def across(web, one, other, bits):
    """For all bits at both places the sum at bits with their deltas there, row by row."""
    want_two_places(web, one, other)
    want_outer_bits(web, bits)
    want_few(web)
    filled = filled_places(web)
    row = row_without(web, filled, [one, other])
    table = [[0] * len(web.rules[other].table) for _ in web.rules[one].table]
    size = 1 << len(web.ties)
    first = bits_number(bits) * size
    for k in range(first, first + size):
        table[filled[one][k]][filled[other][k]] += row[k]
    return tuple([tuple([number % web.prime for number in numbers]) for numbers in table])


def channels(web, one, other, bits):
    """The pair of lists of rules whose weights with the rules at both places tell the sum at bits."""
    table = across(web, one, other, bits)
    rows = reduced_rows(web.prime, table)
    lefts = [Rule(web.prime, [numbers[row.index(1)] for numbers in table]) for row in rows]
    return (lefts, [Rule(web.prime, row) for row in rows])


def links_of(web):
    """For each tie the pair of the places that it leads to."""
    return [(one[0], other[0]) for one, other in web.ties]


def parting(web, one, other):
    """The least list of the fewest ties without which no ties lead from one to other."""
    want_two_places(web, one, other)
    links = links_of(web)
    left = greatest_flow(links, [], one, other)[0]
    taken = []
    for number in range(len(links)):
        # A tie is taken if without it, and those taken ahead, there is one way less.
        if left > 0 and greatest_flow(links, taken + [number], one, other)[0] < left:
            taken.append(number)
            left -= 1
    return [web.ties[number] for number in taken]


def ways(web, one, other):
    """As many ways over ties from one to other as can be, no tie in two of them, each a list of pairs of legs."""
    want_two_places(web, one, other)
    told = []
    for path in greatest_paths(links_of(web), one, other):
        told.append([web.ties[number] if way == 1 else web.ties[number][::-1] for number, _, way in path])
    return told
