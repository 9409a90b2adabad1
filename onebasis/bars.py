"""Bars of webs: a tree and two strands that cross on the way round it, which show that a web is not flat."""

from onebasis.checks import is_list, is_number, is_tuple_of
from onebasis.joining import made_course
from onebasis.surfaces import counts_outside, other_ends, pieces_of, strands_of
from onebasis.webs import leg_counts, want_web


def strands(web):
    """The ties, and the outer legs with the legs of outside, ascending."""
    want_web(web)
    return sorted(strands_of(leg_counts(web), web.ties, web.outer))


def is_bar(web, thing):
    """Whether any value is a bar of the web."""
    want_web(web)
    if not is_tuple_of(thing, 3) or not is_list(thing[0]):
        return False
    tree, one, other = thing
    told = {strand: True for strand in strands(web)}
    if not all([is_strand(x) and x in told for x in list(tree) + [one, other]]):
        return False
    if not all([tree[k] < tree[k + 1] for k in range(len(tree) - 1)]):
        return False
    if one == other or one in tree or other in tree:
        return False
    places = tree_places(web, tree) if tree else [one[0][0]]
    if places is None or not all([leg[0] in places for leg in one + other]):
        return False
    return are_crossing_round(counts_of(web), tree, one, other)


def is_strand(thing):
    """Whether it is a pair of pairs of numbers."""
    if not is_tuple_of(thing, 2) or not all([is_tuple_of(leg, 2) for leg in thing]):
        return False
    return all([is_number(x) for leg in thing for x in leg])


def counts_of(web):
    """How many legs each place has, outside among them if there is one."""
    return counts_outside(leg_counts(web), web.outer)


def tree_places(web, tree):
    """The places that the strands lead together, if they are just one more than these; otherwise None."""
    links = [(one[0], other[0]) for one, other in tree]
    for piece in pieces_of(len(web.rules) + 1, links):
        if links[0][0] in piece:
            # Strands of other pieces would make too many for the places of this one.
            within = [link for link in links if link[0] in piece]
            return piece if len(within) == len(links) == len(piece) - 1 else None
    return None


def round_from(counts, ends, leg):
    """All legs met on the way round the tree from a leg on; ends tells the other legs of the tree's strands."""
    met = [leg]
    at = leg_round(counts, ends, leg)
    while at != leg:
        met.append(at)
        at = leg_round(counts, ends, at)
    return met


def leg_round(counts, ends, leg):
    """The next leg on the way round."""
    place, k = ends.get(leg, leg)
    return (place, (k + 1) % counts[place])


def are_crossing_round(counts, tree, one, other):
    """Whether from the first leg of one, just one leg of other is met ahead of the second leg of one."""
    met = round_from(counts, other_ends(tree), one[0])
    ahead = met[:met.index(one[1])]
    return (other[0] in ahead) != (other[1] in ahead)


def bar_of(web):
    """A bar of the web; None if it is flat."""
    told = strands(web)
    counts = counts_of(web)
    course = made_course(len(counts), told)
    for places in pieces_of(len(counts), [(one[0], other[0]) for one, other in told]):
        tree = sorted([strand for strand in course if strand[0][0] in places])
        chords = [strand for strand in told if strand[0][0] in places and strand not in tree]
        pair = crossing_pair(counts, tree, chords)
        if pair is not None:
            return (tree, pair[0], pair[1])
    return None


def crossing_pair(counts, tree, chords):
    """The first two of the strands of one piece, none of them in the tree, that cross on the way round."""
    if not chords:
        return None
    met = round_from(counts, other_ends(tree), chords[0][0])
    where = {leg: k for k, leg in enumerate(met)}
    spans = [sorted([where[one], where[other]]) for one, other in chords]
    for k, (low, high) in enumerate(spans):
        for j in range(k + 1, len(spans)):
            if (low < spans[j][0] < high) != (low < spans[j][1] < high):
                return (chords[k], chords[j])
    return None
