"""Rules that bring about a wanted sum, or what bars all of them."""

from onebasis.around import around_tables, want_place
from onebasis.errors import BadRule
from onebasis.fields import least_solution, null_rows, power_of
from onebasis.fillings import want_few
from onebasis.rules import Rule, want_rule
from onebasis.webs import want_web


def wanted_tables(web, place, wanted):
    """For all bits at the outer legs the table round the place; refuses what is no wanted rule of the web."""
    want_web(web)
    want_rule(wanted)
    want_place(web, place, "place")
    if wanted.prime != web.prime or wanted.legs != len(web.outer):
        raise BadRule("wanted")
    want_few(web)
    return around_tables(web, place)


def fitting(web, place, wanted):
    """The pair of the least rule at the place with which the sum is wanted, and how many do; None without any."""
    tables = wanted_tables(web, place, wanted)
    many = len(web.rules[place].table)
    table = least_solution(web.prime, tables, wanted.table, many)
    if table is None:
        return None
    return (Rule(web.prime, table), power_of(web.prime, len(null_rows(web.prime, tables, many))))


def barring(web, place, wanted):
    """The least rule that weighs 1 with wanted and 0 with each sum that a rule at the place brings about."""
    tables = wanted_tables(web, place, wanted)
    columns = [[table[k] for table in tables] for k in range(len(web.rules[place].table))]
    table = least_solution(web.prime, columns + [wanted.table], [0] * len(columns) + [1], len(wanted.table))
    return None if table is None else Rule(web.prime, table)
