from itertools import combinations, product

from helpers import ODD_THINGS, Case, at, brute_sum, chance_of, some_rule, some_web
from test_limits import pairs_web
from test_lines import FLAT

from onebasis.bases import Basis, changed_by, other_side
from onebasis.errors import BadBasis, BadSides, BadWeb, TooMany
from onebasis.rules import Rule, ones
from onebasis.sided import side_changed, sides, split, web_changed
from onebasis.webs import Web, is_flat, pieces

RING = Web(5, [ones(5, 2, [1, 2, 3])] * 3, [((0, 1), (1, 0)), ((1, 1), (2, 0)), ((0, 0), (2, 1))], [])


def some_basis(chance, prime):
    while True:
        a, b, c, d = [chance.randrange(prime) for _ in range(4)]
        if (a * d - b * c) % prime:
            return Basis(prime, ((a, b), (c, d)))


def some_two_sided(chance, prime, places, ties, make=some_rule, most_outer=3):
    """A made-up two-sided web, and its left places."""
    lefts = [k for k in range(places) if chance.randrange(2)]
    counts, pairs = [0] * places, []
    for _ in range(ties):
        ones_left = [k for k in lefts if counts[k] < 4]
        others = [k for k in range(places) if k not in lefts and counts[k] < 4]
        if ones_left and others:
            one, other = chance.choice(ones_left), chance.choice(others)
            pairs.append((one, other))
            counts[one] += 1
            counts[other] += 1
    outer = [chance.randrange(places) for _ in range(chance.randrange(most_outer + 1))]
    names = {place: [] for place in range(places)}
    for number, pair in enumerate(pairs):
        names[pair[0]].append((number, 0))
        names[pair[1]].append((number, 1))
    for number, place in enumerate(outer):
        names[place].append((-1, number))
    where = {}
    for place in range(places):
        chance.shuffle(names[place])
        where.update({name: (place, k) for k, name in enumerate(names[place])})
    rules = [make(chance, prime, len(names[place])) for place in range(places)]
    told = [(where[k, 0], where[k, 1]) for k in range(len(pairs))]
    return Web(prime, rules, told, [where[-1, k] for k in range(len(outer))]), lefts


def fits(web, lefts):
    return all((one[0] in lefts) != (other[0] in lefts) for one, other in web.ties)


class Sided(Case):
    def test_sides(self):
        chance = chance_of(540)
        found = {True: 0, False: 0}
        for number in range(120):
            web = some_web(chance, 3, chance.randrange(1, 6), chance.randrange(6))
            if number % 2:
                web = some_two_sided(chance, 3, chance.randrange(1, 6), chance.randrange(6))[0]
            places = range(len(web.rules))
            lots = [list(lot) for many in range(len(places) + 1) for lot in combinations(places, many) if fits(web, lot)]
            lots = [lot for lot in lots if all(min(piece) in lot for piece in pieces(web))]
            self.assertLessEqual(len(lots), 1)
            self.same(sides(web), lots[0] if lots else None)
            found[bool(lots)] += 1
        self.assertGreater(min(found.values()), 20)
        self.same(sides(FLAT), [0])
        self.assertIsNone(sides(RING))
        self.assertIsNone(sides(Web(3, [Rule(3, [1] * 4)], [((0, 0), (0, 1))], [])))
        self.same(sides(Web(3, [], [], [])), [])
        self.same(sides(pairs_web(3, Rule(3, [1] * 256))), list(range(0, 50, 2)) + list(range(50, 60)))

    def test_web_changed(self):
        chance = chance_of(541)
        for number in range(60):
            web = some_web(chance, (3, 7)[number % 2], chance.randrange(1, 5), chance.randrange(7))
            bases = [some_basis(chance, web.prime) for _ in web.ties]
            told = web_changed(web, bases)
            self.assertEqual((told.ties, told.outer), (web.ties, web.outer))
            self.assertEqual(brute_sum(told), brute_sum(web))
            self.assertEqual(web_changed(web, tuple(bases)), told)
        basis = Basis(5, ((1, 2), (0, 1)))
        pair = Web(5, [Rule(5, [1, 3]), Rule(5, [2, 4])], [((0, 0), (1, 0))], [])
        # Entries (1, 2), (0, 1); the other side has (1, 0), (3, 1).
        self.assertEqual(web_changed(pair, [basis]).rules, (Rule(5, [1, 0]), Rule(5, [4, 4])))

    def test_side_changed(self):
        chance = chance_of(542)
        for number in range(60):
            web, lefts = some_two_sided(chance, (3, 7)[number % 2], chance.randrange(1, 5), chance.randrange(7))
            basis = some_basis(chance, web.prime)
            told = side_changed(web, lefts, basis)
            by_side = [basis if place in lefts else other_side(basis) for place, _ in web.outer]
            self.assertEqual(Rule(web.prime, brute_sum(told)), changed_by(Rule(web.prime, brute_sum(web)), by_side))
            for place, rule in enumerate(web.rules):
                by = basis if place in lefts else other_side(basis)
                self.assertEqual(told.rules[place], changed_by(rule, [by] * rule.legs))
            self.assertEqual((told.ties, told.outer), (web.ties, web.outer))

    def test_split(self):
        chance = chance_of(543)
        for _ in range(40):
            web = some_web(chance, 5, chance.randrange(1, 5), chance.randrange(5))
            told = split(web)
            many = len(web.rules)
            self.assertEqual(told.rules, web.rules + (ones(5, 2, [1, 0, 1]),) * len(web.ties))
            wanted = []
            for k, (one, other) in enumerate(web.ties):
                wanted += [(one, (many + k, 0)), (other, (many + k, 1))]
            self.assertEqual(told.ties, tuple(sorted(wanted)))
            self.assertEqual(told.outer, web.outer)
            self.assertEqual(brute_sum(told), brute_sum(web))
            self.assertIs(is_flat(told), is_flat(web))
            self.assertIsNotNone(sides(told))
        wide = Web(3, [Rule(3, [1] * 256)] * 12 + [Rule(3, [1])], [((p, k), (p + 1, 7 - k)) for p in range(0, 12, 2)
                                                                   for k in range(8)], [])
        self.refuses(TooMany, 60, split, wide)
        less = Web(3, wide.rules[:12], wide.ties, [])
        self.assertEqual(len(split(less).rules), 60)
        self.assertEqual(at(split(less).rules[59], (1, 1)), 1)

    def test_refused(self):
        basis, other = Basis(5, ((1, 0), (0, 1))), Basis(7, ((1, 0), (0, 1)))
        for thing in ODD_THINGS:
            self.refuses(BadWeb, None, sides, thing)
            self.refuses(BadWeb, None, web_changed, thing, None)
            self.refuses(BadWeb, None, side_changed, thing, None, None)
            self.refuses(BadWeb, None, split, thing)
            self.refuses(BadBasis, None, side_changed, FLAT, [0], thing)
        for thing in (None, 5, [basis] * 2, [basis] * 4, [basis, basis, other], [basis, basis, None], basis, {0: basis}):
            self.refuses(BadBasis, "bases", web_changed, FLAT, thing)
        for thing in (None, 0, [], [0, 1], [1, 0], [0, 0], [2], [-1], [True], [0.0], "0", {0: 1}):
            self.refuses(BadSides, None, side_changed, FLAT, thing, None)
        for lefts in product((0, 1), repeat=3):
            self.refuses(BadSides, None, side_changed, RING, [k for k in range(3) if lefts[k]], None)
        self.refuses(BadBasis, "prime", side_changed, FLAT, (1,), other)
        self.refuses(BadBasis, "prime", side_changed, Web(5, [], [], []), [], other)
        self.assertEqual(side_changed(FLAT, (1,), basis), FLAT)
