"""What deeds make of a live web: each returns the web, the course and the places reached, or refuses."""

from onebasis.around import exchanged_rules
from onebasis.checks import MOST_PLACES, MOST_TIES, is_from, is_list, is_tuple_of
from onebasis.courses import is_own_tie
from onebasis.errors import BadLive, TooMany
from onebasis.foundforms import has_form
from onebasis.legwork import numbering, spots_of
from onebasis.rules import Rule
from onebasis.surfaces import pieces_of
from onebasis.webs import Web, faces, leg_counts, pieces

# Names for the two new legs of a tie, which are no legs of any place.
ENDS = ((-1, 0), (-1, 1))


def is_rule_for(web, thing, legs):
    """Whether it is a rule of the web's prime with so many legs."""
    return isinstance(thing, Rule) and thing.prime == web.prime and thing.legs == legs


def with_added(web, course, rule):
    """One more place without legs."""
    if not is_rule_for(web, rule, 0):
        raise BadLive("rules")
    if len(web.rules) >= MOST_PLACES:
        raise TooMany(MOST_PLACES)
    return (Web(web.prime, list(web.rules) + [rule], web.ties, []), course, [len(web.rules)])


def with_put(web, course, place, rule):
    """Another rule at a place."""
    if not is_from(place, 0, len(web.rules) - 1):
        raise BadLive("place")
    if not is_rule_for(web, rule, web.rules[place].legs):
        raise BadLive("rules")
    if not has_form(rule):
        raise BadLive("forms")
    return (exchanged_rules(web, {place: rule}), course, [place])


def want_rules(web, legs, more, rules):
    """The dict from the places of two legs to their new rules, with so many legs more each; refuses what are none."""
    places = [legs[0][0], legs[1][0]]
    if places[0] == places[1]:
        places, more = places[:1], 2 * more
    if not is_list(rules) or len(rules) != len(places):
        raise BadLive("rules")
    if not all([is_rule_for(web, rule, web.rules[place].legs + more) for place, rule in zip(places, rules)]):
        raise BadLive("rules")
    if not all([has_form(rule) for rule in rules]):
        raise BadLive("forms")
    return {place: rule for place, rule in zip(places, rules)}


def is_corner(web, thing):
    """Whether it is a pair of a place and of what the number of a new leg may be."""
    if not is_tuple_of(thing, 2) or not is_from(thing[0], 0, len(web.rules) - 1):
        return False
    return is_from(thing[1], 0, web.rules[thing[0]].legs)


def face_at(web, corner):
    """The face on which the corner lies."""
    place, k = corner
    leg = (place, 0 if k == web.rules[place].legs else k)
    return [face for face in faces(web) if leg in face][0]


def with_drawn(web, course, one, other, rules):
    """A new tie between two corners."""
    if not is_corner(web, one):
        raise BadLive("one")
    if not is_corner(web, other):
        raise BadLive("other")
    apart = not any([one[0] in piece and other[0] in piece for piece in pieces(web)])
    if not apart and face_at(web, one) != face_at(web, other):
        raise BadLive("flat")
    fresh = want_rules(web, (one, other), 1, rules)
    if len(web.ties) >= MOST_TIES:
        raise TooMany(MOST_TIES)
    spots = spots_of(leg_counts(web))
    # At one place the later corner comes first, so that both are told by the legs as they were; of two like ones other.
    ends = [(other, ENDS[1]), (one, ENDS[0])]
    if one[1] > other[1]:
        ends.reverse()
    for (place, k), end in ends:
        spots[place].insert(k, end)
    links = course + [ENDS] if apart else course
    return remade(web, spots, list(web.ties) + [ENDS], links, fresh)


def remade(web, spots, ties, links, fresh):
    """The web and the course whose legs are those in the spots, and the places of the dict fresh of new rules."""
    now = numbering(spots)
    rules = [fresh.get(place, rule) for place, rule in enumerate(web.rules)]
    ties = [(now[one], now[other]) for one, other in ties]
    links = [tuple(sorted([now[one], now[other]])) for one, other in links]
    return (Web(web.prime, rules, ties, []), links, sorted(fresh))


def with_dropped(web, course, tie, rules):
    """A tie and its legs taken away."""
    if not is_own_tie(web, tie):
        raise BadLive("tie")
    fresh = want_rules(web, tie, -1, rules)
    spots = [[leg for leg in spot if leg not in tie] for spot in spots_of(leg_counts(web))]
    ties = [told for told in web.ties if told != tie]
    links = [told for told in course if told != tie]
    if tie in course:
        links = links + joining_tie(len(web.rules), ties, links, tie)
    return remade(web, spots, ties, links, fresh)


def joining_tie(many, ties, links, tie):
    """The list of the least of the ties that joins again what the tie joined; empty if none does."""
    region = {}
    for number, piece in enumerate(pieces_of(many, [(one[0], other[0]) for one, other in links])):
        for place in piece:
            region[place] = number
    halves = sorted([region[tie[0][0]], region[tie[1][0]]])
    return [told for told in ties if sorted([region[told[0][0]], region[told[1][0]]]) == halves][:1]
