from itertools import permutations, product
from math import factorial

from helpers import ODD_THINGS, Case, brute_sum, chance_of, some_rule, some_web
from test_limits import pairs_web
from test_renumbers import alike_rules, copies, plain_telling, plainly_renumbered

from onebasis.errors import BadNumber, BadWeb
from onebasis.examples import examples
from onebasis.legturns import (least_turning, legs_alike, legs_turned, many_turnings, plain_turned, turned_telling)
from onebasis.readers import web_of_text
from onebasis.renumbers import many_renumberings, plain_web, renumbered, telling
from onebasis.rules import Rule, ones, turned
from onebasis.webs import Web, is_flat, pieces, plain_sum


def plainly_turned(web, turns):
    """The web with each rule turned, by the words of point 75."""
    def led(leg):
        place, k = leg
        return (place, (k - turns[place]) % web.rules[place].legs)

    rules = [turned(rule, turn) for rule, turn in zip(web.rules, turns)]
    return Web(web.prime, rules, [(led(a), led(b)) for a, b in web.ties], [led(leg) for leg in web.outer])


def all_turnings(web, other):
    """All turnings of a web to another one, by trying."""
    if len(web.rules) != len(other.rules) or web.prime != other.prime:
        return []
    found = []
    for order in permutations(range(len(web.rules))):
        fresh = plainly_renumbered(web, order)
        if [rule.legs for rule in fresh.rules] == [rule.legs for rule in other.rules]:
            for turns in product(*[range(max(1, rule.legs)) for rule in other.rules]):
                if plainly_turned(fresh, turns) == other:
                    found.append((list(order), list(turns)))
    return found


def plain_turned_telling(web, place, leg):
    """The turned telling: that of a web whose places are turned so that each is found at its leg 0."""
    ends = {}
    for one, other in web.ties:
        ends[one], ends[other] = other, one
    first, found = {place: leg}, [place]
    for here in found:
        many = web.rules[here].legs
        for j in range(many):
            end = ends.get((here, (first[here] + j) % many))
            if end is not None and end[0] not in first:
                first[end[0]] = end[1]
                found.append(end[0])
    return plain_telling(plainly_turned(web, [first.get(p, 0) for p in range(len(web.rules))]), place)


def turnable_rules(chance, web):
    """The web with rules that turning leaves as they are, few of them unlike."""
    made = {legs: ones(web.prime, legs, [chance.randrange(2) for _ in range(legs + 1)]) for legs in range(9)}
    return Web(web.prime, [made[rule.legs] for rule in web.rules], web.ties, web.outer)


def some_turnable_web(chance, number):
    web = some_web(chance, 3, chance.randrange(1, 4), chance.randrange(5), number % 3)
    if number % 4:
        web = (alike_rules, turnable_rules)[number % 2](chance, web)
    if number % 8 == 7:
        small = turnable_rules(chance, some_web(chance, 3, 1, chance.randrange(3), 0))
        if not small.outer:
            web = copies(small, 2, chance)
    return web


class LegTurns(Case):
    def test_by_trying_all(self):
        chance = chance_of(750)
        met = {"many": 0, "none": 0, "one": 0, "alike": 0}
        for number in range(120):
            web = some_turnable_web(chance, number)
            order = list(range(len(web.rules)))
            chance.shuffle(order)
            fresh = renumbered(web, order)
            turns = [chance.randrange(9) for _ in order]
            other = legs_turned(fresh, turns)
            self.assertEqual(other, plainly_turned(fresh, turns))
            self.assertEqual(legs_turned(fresh, tuple(turns)), other)
            self.assertEqual(brute_sum(other), brute_sum(web))
            self.assertIs(is_flat(other), is_flat(web))
            if number % 5 == 0:
                rules = list(other.rules)
                rules[0] = some_rule(chance, 3, rules[0].legs)
                other = Web(3, rules, other.ties, other.outer)
            found = all_turnings(web, other)
            self.same(many_turnings(web, other), len(found))
            self.same(least_turning(web, other), min(found) if found else None)
            self.assertEqual(plain_turned(web) == plain_turned(other), bool(found))
            met["many" if len(found) > 1 else "one" if found else "none"] += 1
            legs = [(p, k) for p in range(len(web.rules)) for k in range(web.rules[p].legs)]
            lots = {leg: set() for leg in legs}
            for places, turns in all_turnings(web, web):
                for p, k in legs:
                    lots[p, k].add((places[p], (k + turns[p]) % web.rules[p].legs))
            self.same(legs_alike(web), [list(lot) for lot in sorted({tuple(sorted(lot)) for lot in lots.values()})])
            met["alike"] += any(len(lot) > 1 for lot in lots.values())
            for p, k in legs:
                self.same(turned_telling(web, p, k), plain_turned_telling(web, p, k))
                same = [leg for leg in legs if turned_telling(web, *leg) == turned_telling(web, p, k)]
                self.assertEqual(sorted(lots[p, k]), same)
        self.assertGreater(min(met.values()), 10)

    def test_plain_turned(self):
        chance = chance_of(751)
        for number in range(80):
            web = some_turnable_web(chance, number)
            told = plain_turned(web)
            order, turns = least_turning(web, told)
            self.assertEqual(legs_turned(renumbered(web, order), turns), told)
            self.assertEqual(plain_turned(told), told)
            least = []
            for piece in pieces(told):
                self.assertEqual(piece, list(range(piece[0], piece[-1] + 1)))
                starts = [(p, k) for p in piece for k in range(max(1, told.rules[p].legs))]
                every = min(turned_telling(told, *start) for start in starts)
                # The walk from leg 0 of the first place finds each place at its leg 0, and tells the least.
                self.assertEqual(turned_telling(told, piece[0], 0), every)
                self.assertEqual(telling(told, piece[0]), every)
                self.assertEqual([table for table, _ in every], [told.rules[p].table for p in piece])
                least.append(every)
            self.assertEqual(least, sorted(least))
            self.assertEqual(brute_sum(told), brute_sum(web))

    def test_many_places(self):
        chance = chance_of(752)
        for prime in (3, 97):
            web = pairs_web(prime, Rule(prime, [1] * 256))
            # Each pair goes to itself 16 ways: each leg of both places tells the same.
            number = factorial(25) * 16 ** 25 * factorial(10)
            self.assertEqual(many_turnings(web, web), number)
            self.same(legs_alike(web), [[(p, k) for p in range(50) for k in range(8)]])
            order = list(range(60))
            chance.shuffle(order)
            turns = [chance.randrange(8) if web.rules[place].legs else 0 for place in order]
            other = legs_turned(renumbered(web, order), turns)
            self.assertEqual(many_turnings(web, other), number)
            found, by = least_turning(web, other)
            self.assertEqual(legs_turned(renumbered(web, found), by), other)
            self.assertLessEqual(found, order)
            self.assertEqual(plain_turned(other), plain_turned(web))
            rule = ones(prime, 2, [1, 0, 2])
            ring = Web(prime, [rule] * 60, [((k, 1), ((k + 1) % 60, 0)) for k in range(60)], [])
            self.assertEqual(many_turnings(ring, ring), 120)
            self.assertEqual(len(legs_alike(ring)), 1)

    def test_facts_of_the_examples(self):
        first, second = [web_of_text(text) for text in examples()]
        self.assertEqual(plain_sum(first), Rule(7, [0]))
        self.assertTrue(is_flat(first))
        self.assertEqual((many_turnings(first, first), many_renumberings(first, first)), (6, 3))
        self.assertEqual(plain_sum(second), Rule(97, [6]))
        self.assertFalse(is_flat(second))
        chance = chance_of(753)
        for _ in range(20):
            order = list(range(6))
            chance.shuffle(order)
            other = legs_turned(renumbered(second, order), [chance.randrange(3) for _ in order])
            self.assertGreater(many_turnings(second, other), 0)
            self.assertFalse(is_flat(other))
        self.assertFalse(is_flat(plain_turned(second)))

    def test_edges(self):
        empty = Web(3, [], [], [])
        self.assertEqual(legs_turned(empty, []), empty)
        self.assertEqual(plain_turned(empty), empty)
        self.same((many_turnings(empty, empty), least_turning(empty, empty), legs_alike(empty)), (1, ([], []), []))
        other = Web(5, [], [], [])
        self.same((many_turnings(empty, other), least_turning(empty, other)), (0, None))
        alone = Web(3, [Rule(3, [2]), Rule(3, [1]), Rule(3, [2])], [], [])
        self.same((many_turnings(alone, alone), legs_alike(alone)), (2, []))
        self.assertEqual(least_turning(alone, alone), ([0, 1, 2], [0, 0, 0]))
        self.same(turned_telling(alone, 0, 0), [((2,), ())])
        self.assertEqual(plain_turned(alone), plain_web(alone))
        self.same((many_turnings(alone, empty), least_turning(alone, empty)), (0, None))
        loop = Web(3, [Rule(3, [1, 2, 0, 1])], [((0, 0), (0, 1))], [])
        self.same(turned_telling(loop, 0, 1), [((1, 0, 2, 1), ((0, 1), (0, 0)))])

    def test_refused(self):
        web = Web(3, [Rule(3, [1]), Rule(3, [1, 2])], [], [(1, 0)])
        for thing in ODD_THINGS:
            self.refuses(BadWeb, None, legs_turned, thing, None)
            self.refuses(BadWeb, None, turned_telling, thing, None, None)
            self.refuses(BadWeb, None, plain_turned, thing)
            self.refuses(BadWeb, None, legs_alike, thing)
            for call in (many_turnings, least_turning):
                self.refuses(BadWeb, None, call, thing, web)
                self.refuses(BadWeb, None, call, web, thing)
        for turns in (None, 5, {}, "00", [0], [0, 0, 0], [0, 9], [0, -1], [0, True], [0, 1.0], [None, 0]):
            self.refuses(BadNumber, "turns", legs_turned, web, turns)
        self.assertEqual(legs_turned(web, [8, 8]), web)
        for place in (None, True, 1.0, "0", -1, 2, (0,)):
            self.refuses(BadNumber, "place", turned_telling, web, place, None)
        for leg in (None, True, 1.0, "0", -1, 1, (0,)):
            self.refuses(BadNumber, "leg", turned_telling, web, 0, leg)
            self.refuses(BadNumber, "leg", turned_telling, web, 1, leg)
