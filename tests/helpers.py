"""Sums by plain enumeration, made-up rules and webs, and checks of errors, for the tests."""

import random
import unittest
from itertools import product

from onebasis.rules import Rule
from onebasis.webs import Web

ODD_THINGS = [None, True, False, 1.0, "1", b"1", (), [], {}, object(), -1, 10 ** 30]
ATTRIBUTES = {
    "BadAffine": "part", "BadBasis": "part", "BadDeedLine": "number", "BadForm": "part", "BadFormula": "part",
    "BadGate": "part", "BadLive": "part", "BadLog": "at", "BadLot": "part", "BadNumber": "part",
    "BadProduct": "part", "BadRule": "part", "BadText": "at", "BadWeb": "part", "NoClass": "place",
    "NoForm": "place", "NotAffine": "place", "NotLet": "why", "NotProduct": "place", "NotShort": "place",
    "TooMany": "most",
}
PLAIN_ERRORS = [
    "BadBench", "BadBits", "BadChords", "BadCourse", "BadDeed", "BadEdit", "BadEntries", "BadLine", "BadMove",
    "BadQuestion", "BadRoad", "BadSides", "BadTies", "NoEdge", "NoSquare", "NotFlat",
]


class Case(unittest.TestCase):
    """A test case that can say which error a call raises."""

    def refuses(self, error, part, call, *things):
        """The call raises just this error, with this attribute if it has one."""
        with self.assertRaises(error) as caught:
            call(*things)
        self.assertIs(type(caught.exception), error)
        name = ATTRIBUTES.get(error.__name__)
        if name is not None:
            told = getattr(caught.exception, name)
            self.assertEqual((type(told), told), (type(part), part))

    def same(self, found, wanted):
        """Both are equal, of one kind at every depth."""
        self.assertEqual(found, wanted)
        self.assertEqual(kinds(found), kinds(wanted))


def kinds(thing):
    """The kinds of a value and of all that is in it."""
    if isinstance(thing, (list, tuple)):
        return (type(thing), [kinds(x) for x in thing])
    if isinstance(thing, dict):
        return (dict, [(kinds(k), kinds(thing[k])) for k in thing])
    return type(thing)


def at(rule, bits):
    """The worth of a rule at bits, read off its table."""
    number = 0
    for bit in bits:
        number = 2 * number + bit
    return rule.table[number]


def table_of(legs, tell):
    """The table of what tell says of each tuple of bits."""
    return [tell(bits) for bits in product((0, 1), repeat=legs)]


def brute_sum(web, shut=None):
    """The list of the sums at all bits of the outer legs; shut is the dict of ties with told bits."""
    sums = []
    for outer in product((0, 1), repeat=len(web.outer)):
        total = 0
        for inner in product((0, 1), repeat=len(web.ties)):
            if shut and any(inner[web.ties.index(tie)] != bit for tie, bit in shut.items()):
                continue
            bits = dict(zip(web.outer, outer))
            for tie, bit in zip(web.ties, inner):
                bits[tie[0]] = bits[tie[1]] = bit
            number = 1
            for place, rule in enumerate(web.rules):
                number *= at(rule, [bits[place, k] for k in range(rule.legs)])
            total += number
        sums.append(total % web.prime)
    return sums


def some_rule(chance, prime, legs):
    """A made-up rule."""
    return Rule(prime, [chance.randrange(prime) for _ in range(1 << legs)])


def some_web(chance, prime, places, ties, most_outer=3):
    """A made-up web, flat or not, of at most so many ties, with a few outer legs."""
    counts = [0] * places
    for _ in range(2 * ties + chance.randrange(most_outer + 1)):
        free = [k for k in range(places) if counts[k] < 4]
        if free:
            counts[chance.choice(free)] += 1
    legs = [(p, k) for p in range(places) for k in range(counts[p])]
    chance.shuffle(legs)
    many = min(ties, len(legs) // 2)
    pairs = [(legs[2 * k], legs[2 * k + 1]) for k in range(many)]
    rules = [some_rule(chance, prime, many_legs) for many_legs in counts]
    return Web(prime, rules, pairs, legs[2 * many:])


def some_flat_web(chance, prime, places, ties, make=some_rule):
    """A made-up flat web without outer legs, drawn tie by tie at corners of one face."""
    rings = [[] for _ in range(places)]
    pairs = []
    for number in range(ties):
        corners = [(p, k) for p in range(places) for k in range(len(rings[p]) + 1) if len(rings[p]) < 4]
        while corners:
            one, other = chance.choice(corners), chance.choice(corners)
            drawn = [list(ring) for ring in rings]
            drawn[one[0]].insert(one[1], (number, 0))
            if len(drawn[other[0]]) <= 4:
                drawn[other[0]].insert(min(other[1], len(drawn[other[0]])), (number, 1))
                if is_sphere(drawn):
                    rings = drawn
                    pairs.append(number)
                    break
            corners.remove(one)
    where = {end: (p, k) for p, ring in enumerate(rings) for k, end in enumerate(ring)}
    rules = [make(chance, prime, len(ring)) for ring in rings]
    return Web(prime, rules, [(where[n, 0], where[n, 1]) for n in pairs], [])


def is_sphere(rings):
    """Whether in each piece places and faces are 2 more than ties; rings hold ends (tie, 0 or 1)."""
    where = {end: (p, k) for p, ring in enumerate(rings) for k, end in enumerate(ring)}
    parent = list(range(len(rings)))

    def root(place):
        while parent[place] != place:
            place = parent[place]
        return place

    for number, side in where:
        parent[root(where[number, side][0])] = root(where[number, 1 - side][0])
    faces = {p: 0 for p in parent}
    left = set(where)
    while left:
        first = end = min(left)
        while True:
            left.discard(end)
            place, k = where[end[0], 1 - end[1]]
            end = rings[place][(k + 1) % len(rings[place])]
            if end == first:
                break
        faces[root(where[first][0])] += 1
    for piece in {root(p) for p in range(len(rings))}:
        members = [p for p in range(len(rings)) if root(p) == piece]
        many = sum(len(rings[p]) for p in members) // 2
        if len(members) + max(faces[piece], 1 if many == 0 else 0) != many + 2:
            return False
    return True


def chance_of(number):
    """A source of made-up numbers that is the same in each run."""
    return random.Random(number)


def some_flat_outer_web(chance, prime, places, ties, make=some_rule):
    """A made-up flat web, its outer legs being the ties of the last place of a flat web with one place more."""
    while True:
        web = some_flat_web(chance, prime, places + 1, ties, make)
        outside = {tie[1]: tie[0] for tie in web.ties if tie[1][0] == places and tie[0][0] < places}
        many = web.rules[places].legs
        if len(outside) == many:
            inner = [tie for tie in web.ties if tie[1][0] < places]
            outer = [outside[places, many - 1 - k] for k in range(many)]
            return Web(prime, web.rules[:places], inner, outer)


def grid_web(chance, prime, rows, columns, many, make=some_rule):
    """A flat grid of places with made-up rules; the first so many of the lowest row have outer legs, in sequence."""
    numbers = {(r, c): c * rows + r for c in range(columns) for r in range(rows)}
    legs = {}
    for r, c in numbers:
        ways = [(r, c + 1), (r + 1, c), (r, c - 1), (r - 1, c)]
        legs[r, c] = [way for way in ways if way in numbers or (way[0] == -1 and c < many)]
    ties = []
    for r, c in numbers:
        for other in ((r, c + 1), (r + 1, c)):
            if other in numbers:
                ties.append(((numbers[r, c], legs[r, c].index(other)), (numbers[other], legs[other].index((r, c)))))
    outer = [(numbers[0, c], legs[0, c].index((-1, c))) for c in range(many)]
    return Web(prime, [make(chance, prime, len(legs[at_place])) for at_place in numbers], ties, outer)


def swept_sum(web):
    """The list of the sums at all bits of the outer legs, place by place, for webs of few ties to later places."""
    names = {leg: (0, k) for k, leg in enumerate(web.outer)}
    names.update({leg: (1, k) for k, tie in enumerate(web.ties) for leg in tie})
    states = {(): 1}
    for place, rule in enumerate(web.rules):
        own = [names[place, k] for k in range(rule.legs)]
        kept = [name for name in names.values() if name[0] == 0 or web.ties[name[1]][1][0] > place]
        fresh = {}
        for state, number in states.items():
            for bits, worth in zip(product((0, 1), repeat=rule.legs), rule.table):
                told = dict(state)
                if worth and all(told.setdefault(name, bit) == bit for name, bit in zip(own, bits)):
                    key = tuple(sorted((name, bit) for name, bit in told.items() if name in kept))
                    fresh[key] = (fresh.get(key, 0) + number * worth) % web.prime
        states = fresh
    every = product((0, 1), repeat=len(web.outer))
    return [states.get(tuple(((0, k), bit) for k, bit in enumerate(bits)), 0) for bits in every]
