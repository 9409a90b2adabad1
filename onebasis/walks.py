"""Walks through webs from a leg on, what they tell, and webs that tell the same.

A start is a pair (place, leg). Walks that are turned take the legs of each place from the end on by which it was found;
others take them from leg 0 on.
"""

from onebasis.ledwebs import led_along, turned_along
from onebasis.legwork import spots_of
from onebasis.rules import turned
from onebasis.surfaces import other_ends
from onebasis.webs import leg_counts, pieces


class Ground:
    """A web, what is at the other ends of its legs, and the tables of its turned rules that were asked for so far."""

    def __init__(self, whole, is_turned):
        self.whole = whole
        self.is_turned = is_turned
        self.counts = leg_counts(whole)
        self.ends = other_ends(whole.ties)
        self.outer = {leg: k for k, leg in enumerate(whole.outer)}
        self.tables = {}


def table_at(ground, start):
    """The table of the rule at the place of the start, turned to its leg."""
    if start not in ground.tables:
        ground.tables[start] = turned(ground.whole.rules[start[0]], start[1]).table
    return ground.tables[start]


def starts_of(ground, places):
    """All starts at these places, ascending."""
    if not ground.is_turned:
        return [(place, 0) for place in places]
    return [(place, k) for place in places for k in range(max(1, ground.counts[place]))]


def all_starts(ground):
    """All starts of the web, ascending."""
    return starts_of(ground, list(range(len(ground.counts))))


def walk_from(ground, start):
    """The starts of all places that a walk finds, in its sequence."""
    found = {start[0]: True}
    walk = [start]
    k = 0
    while k < len(walk):
        place, first = walk[k]
        for j in range(ground.counts[place]):
            end = ground.ends.get((place, (first + j) % ground.counts[place]))
            if end is not None and end[0] not in found:
                found[end[0]] = True
                walk.append((end[0], end[1] if ground.is_turned else 0))
        k += 1
    return walk


def told_by(ground, walk):
    """What the walk tells: for each place its table, and for each of its legs what is at the other end."""
    met = {place: (k, first) for k, (place, first) in enumerate(walk)}
    return [(table_at(ground, start), tuple([end_of(ground, met, start, j) for j in range(ground.counts[start[0]])]))
            for start in walk]


def end_of(ground, met, start, j):
    """The pair (which in the walk, leg) at the other end of the leg j behind the start."""
    leg = (start[0], (start[1] + j) % ground.counts[start[0]])
    if leg in ground.outer:
        return (-1, ground.outer[leg])
    place, k = ground.ends[leg]
    at, first = met[place]
    return (at, (k - first) % ground.counts[place])


def telling_from(ground, start):
    """What the walk from a start tells."""
    return told_by(ground, walk_from(ground, start))


def least_starts(ground, places):
    """The pair of the least telling of a piece and of the starts that tell it."""
    told = [(telling_from(ground, start), start) for start in starts_of(ground, places)]
    least = min([telling for telling, _ in told])
    return (least, [start for telling, start in told if telling == least])


def all_least(ground):
    """For each piece the pair of its least telling and of the starts that tell it, ascending."""
    return sorted([least_starts(ground, places) for places in pieces(ground.whole)])


def in_order(web, order):
    """The web whose place k is place order[k] of the web."""
    spots = spots_of(leg_counts(web))
    return led_along(web, [web.rules[place] for place in order], [spots[place] for place in order], web.ties)


def plain_ground(ground):
    """The web with its pieces in the sequence of their least tellings, each in the sequence of a walk that tells it."""
    walk = [start for _, starts in all_least(ground) for start in walk_from(ground, starts[0])]
    return turned_along(in_order(ground.whole, [place for place, _ in walk]), [first for _, first in walk])


def many_matches(ground, other):
    """How many ways lead from the web to the other one."""
    if plain_ground(ground) != plain_ground(other):
        return 0
    number = 1
    alike, before = 0, None
    for telling, starts in all_least(ground):
        # Of m pieces with one least telling each may go to any one, so that their numbers come to m factorial.
        alike = alike + 1 if telling == before else 1
        before = telling
        number = number * alike * len(starts)
    return number


def least_match(ground, other):
    """The least pair (order, turns) that leads from the web to the other one; None without one."""
    many = len(other.whole.rules)
    if ground.whole.prime != other.whole.prime or len(ground.whole.rules) != many:
        return None
    told = {}
    for start in all_starts(ground):
        told[start] = telling_from(ground, start)
    match = {}
    used = {}
    for place in range(many):
        if place not in match:
            walk = walk_from(other, (place, 0))
            wanted = told_by(other, walk)
            fitting = [start for start in told if start[0] not in used and told[start] == wanted]
            if not fitting:
                return None
            found = min([matched(ground, walk, start) for start in fitting])
            for at, there, turn in zip(sorted([at for at, _ in walk]), found[0], found[1]):
                match[at] = (there, turn)
                used[there] = True
    return ([match[place][0] for place in range(many)], [match[place][1] for place in range(many)])


def matched(ground, walk, start):
    """For the places of a walk of another web, ascending: the places that the walk from start meets, and the turns."""
    rows = []
    for (at, first), (place, own) in zip(walk, walk_from(ground, start)):
        many = ground.counts[place]
        rows.append((at, place, (own - first) % many if many else 0))
    rows = sorted(rows)
    return ([place for _, place, _ in rows], [turn for _, _, turn in rows])


def alike_starts(ground):
    """The lists of the starts that tell the same, ascending."""
    lots = {}
    for start in all_starts(ground):
        lots.setdefault(tuple(telling_from(ground, start)), []).append(start)
    return list(lots.values())
