from itertools import permutations
from math import factorial

from helpers import ODD_THINGS, Case, brute_sum, chance_of, some_rule, some_web
from test_limits import pairs_web

from onebasis.errors import BadNumber, BadWeb
from onebasis.renumbers import least_renumbering, many_renumberings, places_alike, plain_web, renumbered, telling
from onebasis.rules import Rule
from onebasis.webs import Web, is_flat, pieces


def plainly_renumbered(web, order):
    """The web whose place k is place order[k] of the web, by its words."""
    now = {place: k for k, place in enumerate(order)}
    ties = [((now[p], k), (now[q], j)) for (p, k), (q, j) in web.ties]
    return Web(web.prime, [web.rules[place] for place in order], ties, [(now[p], k) for p, k in web.outer])


def plain_telling(web, place):
    """The telling of a place, by the words of point 74."""
    ends = {}
    for one, other in web.ties:
        ends[one], ends[other] = other, one
    found = [place]
    for here in found:
        for k in range(web.rules[here].legs):
            if (here, k) in ends and ends[here, k][0] not in found:
                found.append(ends[here, k][0])
    told = []
    for here in found:
        row = []
        for k in range(web.rules[here].legs):
            if (here, k) in ends:
                there, leg = ends[here, k]
                row.append((found.index(there), leg))
            else:
                row.append((-1, web.outer.index((here, k))))
        told.append((web.rules[here].table, tuple(row)))
    return told


def alike_rules(chance, web):
    """The web with few unlike rules, so that many places are alike."""
    made = {legs: Rule(web.prime, [chance.randrange(2)] * (1 << legs)) for legs in range(9)}
    return Web(web.prime, [made[rule.legs] for rule in web.rules], web.ties, web.outer)


def copies(web, many, chance):
    """So many copies of a web without outer legs beside one another, places mixed."""
    size = len(web.rules)
    ties = [((p + size * n, k), (q + size * n, j)) for n in range(many) for (p, k), (q, j) in web.ties]
    whole = Web(web.prime, list(web.rules) * many, ties, [])
    order = list(range(size * many))
    chance.shuffle(order)
    return plainly_renumbered(whole, order)


def some_alike_web(chance, number):
    """A made-up web of few places, now and then of several pieces that are alike."""
    web = some_web(chance, 3, chance.randrange(1, 5), chance.randrange(5), number % 3)
    if number % 2:
        web = alike_rules(chance, web)
    if number % 4 == 3:
        small = alike_rules(chance, some_web(chance, 3, chance.randrange(1, 3), chance.randrange(3), 0))
        if not small.outer:
            web = copies(small, chance.randrange(2, 4) if len(small.rules) == 1 else 2, chance)
    return web


class Renumbers(Case):
    def test_by_all_orders(self):
        chance = chance_of(740)
        met = {"many": 0, "none": 0, "one": 0, "alike": 0}
        for number in range(150):
            web = some_alike_web(chance, number)
            places = range(len(web.rules))
            order = list(places)
            chance.shuffle(order)
            other = plainly_renumbered(web, order)
            self.assertEqual(renumbered(web, order), other)
            self.assertEqual(renumbered(web, tuple(order)), other)
            if number % 5 == 0 and web.rules:
                rules = list(other.rules)
                rules[0] = some_rule(chance, 3, rules[0].legs)
                other = Web(3, rules, other.ties, other.outer)
            orders = [list(told) for told in permutations(places) if plainly_renumbered(web, told) == other]
            self.same(many_renumberings(web, other), len(orders))
            self.same(least_renumbering(web, other), min(orders) if orders else None)
            self.assertEqual(plain_web(web) == plain_web(other), bool(orders))
            met["many" if len(orders) > 1 else "one" if orders else "none"] += 1
            own = [told for told in permutations(places) if plainly_renumbered(web, told) == web]
            lots = sorted({tuple(sorted({told[place] for told in own})) for place in places})
            self.same(places_alike(web), [list(lot) for lot in lots])
            met["alike"] += len(lots) < len(web.rules)
            for place in places:
                self.same(telling(web, place), plain_telling(web, place))
                self.assertEqual([k for k in places if telling(web, k) == telling(web, place)],
                                 [lot for lot in places_alike(web) if place in lot][0])
        self.assertGreater(min(met.values()), 10)

    def test_plain_web(self):
        chance = chance_of(741)
        for number in range(100):
            web = some_alike_web(chance, number)
            told = plain_web(web)
            order = least_renumbering(web, told)
            self.assertEqual(renumbered(web, order), told)
            self.assertEqual(plain_web(told), told)
            # Pieces stand in a row, each told by its first place, which tells the least of all its places.
            least = []
            for piece in pieces(told):
                self.assertEqual(piece, list(range(piece[0], piece[-1] + 1)))
                every = [telling(told, place) for place in piece]
                self.assertEqual(every[0], min(every))
                places = [(place, k) for place in piece for k in range(told.rules[place].legs)]
                self.assertEqual(len(every[0]), len(piece))
                self.assertEqual([(p + piece[0], k) if p >= 0 else told.outer[k] for _, ends in every[0] for p, k in ends],
                                 [dict(told.ties + tuple((b, a) for a, b in told.ties)).get(leg, leg) for leg in places])
                least.append(every[0])
            self.assertEqual(least, sorted(least))
            self.assertEqual(brute_sum(told), brute_sum(web))
            self.assertIs(is_flat(told), is_flat(web))

    def test_many_places(self):
        chance = chance_of(742)
        for prime in (3, 97):
            web = pairs_web(prime, Rule(prime, [1] * 256))
            # 25 pairs, each of whose places tells the same, and ten places alone.
            self.assertEqual(many_renumberings(web, web), factorial(25) * 2 ** 25 * factorial(10))
            self.same(places_alike(web), [list(range(50)), list(range(50, 60))])
            order = list(range(60))
            chance.shuffle(order)
            other = renumbered(web, order)
            self.assertEqual(plain_web(other), plain_web(web))
            told = least_renumbering(web, other)
            self.assertEqual(renumbered(web, told), other)
            self.assertLessEqual(told, order)
            self.assertEqual(many_renumberings(web, other), factorial(25) * 2 ** 25 * factorial(10))
            rule = some_rule(chance, prime, 2)
            ring = Web(prime, [rule] * 60, [((k, 1), ((k + 1) % 60, 0)) for k in range(60)], [])
            self.assertEqual(many_renumberings(ring, ring), 60)
            self.same(places_alike(ring), [list(range(60))])
            self.assertEqual(least_renumbering(ring, ring), list(range(60)))
            three = Web(prime, [rule] * 60, [((k, 1), ((k + 1) % 20 + k // 20 * 20, 0)) for k in list(range(20))]
                        + [((k, 1), ((k + 1 - 20) % 20 + 20, 0)) for k in range(20, 40)]
                        + [((k, 1), ((k + 1 - 40) % 20 + 40, 0)) for k in range(40, 60)], [])
            self.assertEqual(many_renumberings(three, three), 6 * 20 ** 3)
            self.assertEqual(many_renumberings(three, ring), 0)
            self.assertIsNone(least_renumbering(ring, three))

    def test_outer_legs(self):
        rule = Rule(3, [1, 1])
        web = Web(3, [rule] * 3, [], [(2, 0), (0, 0), (1, 0)])
        self.same(telling(web, 2), [((1, 1), ((-1, 0),))])
        self.same(places_alike(web), [[0], [1], [2]])
        self.assertEqual(plain_web(web).outer, ((0, 0), (1, 0), (2, 0)))
        self.assertEqual(least_renumbering(web, plain_web(web)), [2, 0, 1])
        self.assertEqual(many_renumberings(web, web), 1)

    def test_edges(self):
        empty = Web(3, [], [], [])
        self.assertEqual(renumbered(empty, []), empty)
        self.same((many_renumberings(empty, empty), least_renumbering(empty, empty), places_alike(empty)), (1, [], []))
        self.assertEqual(plain_web(empty), empty)
        other = Web(5, [], [], [])
        self.same((many_renumberings(empty, other), least_renumbering(empty, other)), (0, None))
        one = Web(3, [Rule(3, [2])], [], [])
        self.same((many_renumberings(one, empty), least_renumbering(one, empty)), (0, None))
        self.same((many_renumberings(empty, one), least_renumbering(empty, one)), (0, None))

    def test_refused(self):
        web = Web(3, [Rule(3, [1])] * 3, [], [])
        for thing in ODD_THINGS:
            self.refuses(BadWeb, None, renumbered, thing, None)
            self.refuses(BadWeb, None, telling, thing, None)
            self.refuses(BadWeb, None, plain_web, thing)
            self.refuses(BadWeb, None, places_alike, thing)
            for call in (many_renumberings, least_renumbering):
                self.refuses(BadWeb, None, call, thing, web)
                self.refuses(BadWeb, None, call, web, thing)
        for order in (None, 5, {}, "012", [0, 1], [0, 1, 2, 2], [0, 1, 3], [0, 1, 1], [0, 1, True], [0, 1, 2.0], [-1, 0, 1],
                      [0, 1, None], [0, 1, 2, 3]):
            self.refuses(BadNumber, "order", renumbered, web, order)
        for place in (None, True, 1.0, "0", -1, 3, (0,)):
            self.refuses(BadNumber, "place", telling, web, place)
