"""Webs with their places in another sequence and their rules turned: which are the same, and which legs are alike."""

from onebasis.around import want_place
from onebasis.checks import MOST_LEGS, is_from, is_list
from onebasis.errors import BadNumber
from onebasis.ledwebs import turned_along
from onebasis.walks import Ground, alike_starts, least_match, many_matches, plain_ground, telling_from
from onebasis.webs import want_web


def legs_turned(web, turns):
    """The web whose rule at each place is turned, its ties and outer legs led along."""
    want_web(web)
    if not is_list(turns) or len(turns) != len(web.rules) or not all([is_from(x, 0, MOST_LEGS) for x in turns]):
        raise BadNumber("turns")
    return turned_along(web, turns)


def turning(web):
    """The ground of a web for walks that are turned."""
    want_web(web)
    return Ground(web, True)


def turned_telling(web, place, leg):
    """What the walk from the leg tells, the legs of each place being told from the end on by which it was found."""
    ground = turning(web)
    want_place(web, place, "place")
    if not is_from(leg, 0, max(0, web.rules[place].legs - 1)):
        raise BadNumber("leg")
    return telling_from(ground, (place, leg))


def plain_turned(web):
    """The web renumbered and turned by the least turned tellings of its pieces."""
    return plain_ground(turning(web))


def many_turnings(web, other):
    """How many turnings lead from the web to the other one."""
    return many_matches(turning(web), turning(other))


def least_turning(web, other):
    """The least turning that leads from the web to the other one; None without one."""
    return least_match(turning(web), turning(other))


def legs_alike(web):
    """The lists of the legs that turnings of the web to itself lead to one another."""
    lots = [[leg for leg in starts if web.rules[leg[0]].legs] for starts in alike_starts(turning(web))]
    return [legs for legs in lots if legs]
