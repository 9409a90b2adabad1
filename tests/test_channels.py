from itertools import combinations, product

from helpers import ODD_THINGS, Case, at, brute_sum, chance_of, some_rule, some_web
from test_limits import pairs_web

from onebasis.around import delta, weighed, with_rule
from onebasis.channels import across, channels, parting, ways
from onebasis.errors import BadBits, BadNumber, BadWeb, TooMany
from onebasis.rules import Rule
from onebasis.webs import Web


def leads(ties, one, other):
    """Whether ties lead from one place to another."""
    reached = {one}
    while True:
        more = {q for (p, _), (q, _) in ties if p in reached} | {p for (p, _), (q, _) in ties if q in reached}
        if more <= reached:
            return other in reached
        reached |= more


def least_parting(web, one, other):
    """The least of the shortest lists of ties without which no ties lead from one to other, by trying."""
    for many in range(len(web.ties) + 1):
        for some in combinations(web.ties, many):
            if not leads([tie for tie in web.ties if tie not in some], one, other):
                return list(some)


def rank(prime, rows):
    rows = [list(row) for row in rows]
    found = 0
    for column in range(len(rows[0])):
        lead = [row for row in rows if row[column] % prime]
        if lead:
            found += 1
            rows.remove(lead[0])
            inverse = pow(lead[0][column], -1, prime)
            rows = [[(x - row[column] * inverse * y) % prime for x, y in zip(row, lead[0])] for row in rows]
    return found


class Channels(Case):
    def test_across(self):
        chance = chance_of(830)
        whole = 0
        for number in range(60):
            prime = (3, 97)[number % 2]
            web = some_web(chance, prime, chance.randrange(2, 5), chance.randrange(6), 3)
            one, other = chance.sample(range(len(web.rules)), 2)
            bits = tuple(chance.randrange(2) for _ in web.outer)
            told = across(web, one, other, bits)
            wanted = []
            for b in product((0, 1), repeat=web.rules[one].legs):
                first = with_rule(web, one, delta(prime, b))
                wanted.append(tuple(at(Rule(prime, brute_sum(with_rule(first, other, delta(prime, c)))), bits)
                                    for c in product((0, 1), repeat=web.rules[other].legs)))
            self.same(told, tuple(wanted))
            whole += any(any(row) for row in wanted)
        self.assertGreater(whole, 20)

    def test_channels(self):
        chance = chance_of(831)
        met = {}
        for number in range(200):
            prime = (3, 97)[number % 2]
            web = some_web(chance, prime, chance.randrange(2, 5), chance.randrange(8), 2)
            one, other = chance.sample(range(len(web.rules)), 2)
            bits = tuple(chance.randrange(2) for _ in web.outer)
            told = channels(web, one, other, bits)
            self.assertIs(type(told), tuple)
            lefts, rights = told
            table = across(web, one, other, bits)
            self.assertEqual((type(lefts), type(rights), len(lefts)), (list, list, len(rights)))
            self.assertEqual(len(lefts), rank(prime, table))
            self.assertLessEqual(len(lefts), 2 ** len(parting(web, one, other)))
            before = -1
            for k, (left, right) in enumerate(zip(lefts, rights)):
                lead = [j for j, number in enumerate(right.table) if number][0]
                self.assertEqual(right.table[lead], 1)
                self.assertGreater(lead, before)
                before = lead
                self.assertEqual([row.table[lead] for row in rights], [1 if j == k else 0 for j in range(len(rights))])
                self.assertEqual(left, Rule(prime, [row[lead] for row in table]))
            for _ in range(2):
                first, second = some_rule(chance, prime, web.rules[one].legs), some_rule(chance, prime, web.rules[other].legs)
                fresh = with_rule(with_rule(web, one, first), other, second)
                total = sum(weighed(first, left) * weighed(second, right) for left, right in zip(lefts, rights)) % prime
                self.assertEqual(at(Rule(prime, brute_sum(fresh)), bits), total)
            met[len(lefts)] = met.get(len(lefts), 0) + 1
        self.assertGreater(min(met.get(k, 0) for k in (0, 1, 2)), 5)

    def test_parting_and_ways(self):
        chance = chance_of(832)
        met = {}
        for number in range(250):
            web = some_web(chance, 3, chance.randrange(2, 7), chance.randrange(10), 2)
            one, other = chance.sample(range(len(web.rules)), 2)
            told = parting(web, one, other)
            self.same(told, least_parting(web, one, other))
            met[len(told)] = met.get(len(told), 0) + 1
            self.check_ways(web, one, other, len(told))
        self.assertGreater(min(met.get(k, 0) for k in (0, 1, 2, 3)), 5)

    def check_ways(self, web, one, other, many):
        found = ways(web, one, other)
        self.assertEqual((type(found), len(found)), (list, many))
        used = []
        for way in found:
            self.assertIs(type(way), list)
            places = [one]
            for pair in way:
                self.assertIs(type(pair), tuple)
                here, there = pair
                self.assertIn(tuple(sorted(pair)), web.ties)
                self.assertEqual(here[0], places[-1])
                places.append(there[0])
                used.append(tuple(sorted(pair)))
            self.assertEqual(places[-1], other)
            self.assertEqual(len(places), len(set(places)))
        self.assertEqual(len(used), len(set(used)))

    def test_many_places(self):
        chance = chance_of(833)
        web = pairs_web(3, Rule(3, [1] * 256))
        self.assertEqual(parting(web, 0, 1), [((0, k), (1, 7 - k)) for k in range(8)])
        self.check_ways(web, 0, 1, 8)
        self.assertEqual(parting(web, 1, 3), [])
        self.assertEqual(ways(web, 58, 59), [])
        for _ in range(4):
            legs = [(p, k) for p in range(50) for k in range(8)]
            chance.shuffle(legs)
            web = Web(3, [Rule(3, [1] * 256)] * 50, [(legs[2 * k], legs[2 * k + 1]) for k in range(200)], [])
            told = parting(web, 7, 31)
            self.assertFalse(leads([tie for tie in web.ties if tie not in told], 7, 31))
            self.assertEqual(told, sorted(told))
            # As many ways show that no fewer ties do.
            self.check_ways(web, 7, 31, len(told))
        grid = Web(3, [Rule(3, [1] * 4)] * 60, [((k, 1), (k + 1, 0)) for k in range(59)], [(0, 0), (59, 1)])
        self.assertEqual(parting(grid, 40, 20), [((20, 1), (21, 0))])
        self.assertEqual(ways(grid, 22, 20), [[((22, 0), (21, 1)), ((21, 0), (20, 1))]])

    def test_refused(self):
        web = Web(3, [Rule(3, [1, 2]), Rule(3, [1, 1, 1, 1])], [((0, 0), (1, 0))], [(1, 1)])
        for call, more in ((across, (None,)), (channels, (None,)), (parting, ()), (ways, ())):
            for thing in ODD_THINGS:
                self.refuses(BadWeb, None, call, thing, None, None, *more)
            for place in (None, True, 1.0, "0", -1, 2, (0,)):
                self.refuses(BadNumber, "one", call, web, place, None, *more)
                self.refuses(BadNumber, "other", call, web, 0, place, *more)
            self.refuses(BadNumber, "other", call, web, 1, 1, *more)
        long = pairs_web(3, Rule(3, [1] * 256))
        for call in (across, channels):
            for bits in (None, (), (0, 0), [0], (2,), (True,), "0"):
                self.refuses(BadBits, None, call, web, 0, 1, bits)
            self.refuses(BadBits, None, call, long, 0, 1, (0,))
            self.refuses(TooMany, 12, call, long, 0, 1, ())
