"""Webs: rules at places, ties between their legs, and outer legs."""

from onebasis.checks import MOST_PLACES, MOST_TIES, are_free_legs, are_places, are_unlike, is_leg, is_list
from onebasis.checks import is_prime, is_tuple_of
from onebasis.errors import BadNumber, BadWeb
from onebasis.fillings import filling_sums, want_few
from onebasis.rules import Rule
from onebasis.surfaces import faces_of, is_flat_surface, pieces_of


class Web:
    """A web of rules of one prime."""

    def __init__(self, prime, rules, ties, outer):
        if not is_prime(prime):
            raise BadWeb("prime")
        if not are_rules(prime, rules):
            raise BadWeb("rules")
        counts = [rule.legs for rule in rules]
        if not are_ties(counts, ties):
            raise BadWeb("ties")
        if not are_free_legs(outer, counts, [leg for tie in ties for leg in tie]):
            raise BadWeb("outer")
        self.prime = prime
        self.rules = tuple(rules)
        self.ties = tuple(sorted([tuple(sorted(tie)) for tie in ties]))
        self.outer = tuple(outer)

    def __eq__(self, other):
        if not isinstance(other, Web) or self.prime != other.prime or self.rules != other.rules:
            return False
        return self.ties == other.ties and self.outer == other.outer


def are_rules(prime, things):
    """Whether it is a list of rules of this prime, within the limits."""
    if not is_list(things) or len(things) > MOST_PLACES:
        return False
    return all([isinstance(x, Rule) and x.prime == prime for x in things])


def are_rules_of_one_prime(things):
    """Whether it is a list of rules that all have one prime, within the limits."""
    if not is_list(things):
        return False
    return len(things) == 0 or (isinstance(things[0], Rule) and are_rules(things[0].prime, things))


def are_ties(counts, things):
    """Whether it is a list of pairs of legs, all unlike, within the limits."""
    if not is_list(things) or len(things) > MOST_TIES or not all([is_tuple_of(x, 2) for x in things]):
        return False
    legs = [leg for tie in things for leg in tie]
    return all([is_leg(leg, counts) for leg in legs]) and are_unlike(legs)


def want_web(web):
    """Refuses what is no Web."""
    if not isinstance(web, Web):
        raise BadWeb(None)


def leg_counts(web):
    """How many legs each place has."""
    return [rule.legs for rule in web.rules]


def plain_sum(web):
    """The sum over all bits on the ties, as a Rule with the outer legs."""
    want_web(web)
    want_few(web)
    return Rule(web.prime, filling_sums(web))


def part(web, places):
    """The web of the rules at these places alone, with the ties among them."""
    want_web(web)
    if not are_places(places, len(web.rules)):
        raise BadNumber("places")
    found = {place: k for k, place in enumerate(places)}
    among = [tie for tie in web.ties if tie[0][0] in found and tie[1][0] in found]
    tied = {leg: True for tie in among for leg in tie}
    outer = [(p, k) for p in places for k in range(web.rules[p].legs) if (p, k) not in tied]
    ties = [((found[p], k), (found[q], j)) for (p, k), (q, j) in among]
    return Web(web.prime, [web.rules[p] for p in places], ties, [(found[p], k) for p, k in outer])


def pieces(web):
    """The lists of the places that ties lead together, ascending."""
    want_web(web)
    return pieces_of(len(web.rules), [(one[0], other[0]) for one, other in web.ties])


def faces(web):
    """The faces of the web, ascending, each the tuple of its legs."""
    want_web(web)
    return faces_of(leg_counts(web), web.ties, web.outer)


def is_flat(web):
    """Whether the web is flat."""
    want_web(web)
    return is_flat_surface(leg_counts(web), web.ties, web.outer)
