from itertools import combinations

from helpers import ODD_THINGS, Case, brute_sum, chance_of, some_rule, some_web
from test_around import long_web

from onebasis.blame import blame, exchanged
from onebasis.errors import BadNumber, BadWeb, TooMany
from onebasis.rules import Rule
from onebasis.webs import Web

BARE = Web(7, [Rule(7, [1])] * 7, [], [])


def likes(chance, web, unlike):
    rules = list(web.rules)
    for place in unlike:
        rules[place] = some_rule(chance, web.prime, rules[place].legs)
    return Web(web.prime, rules, web.ties, web.outer)


class Blame(Case):
    def test_exchanged(self):
        chance = chance_of(84)
        web = some_web(chance, 7, 4, 4)
        other = likes(chance, web, range(4))
        found = exchanged(web, other, [1, 3])
        self.assertEqual(found.rules, (web.rules[0], other.rules[1], web.rules[2], other.rules[3]))
        self.assertEqual((found.ties, found.outer), (web.ties, web.outer))
        self.assertEqual(exchanged(web, other, ()), web)

    def test_blame_sums_up(self):
        chance = chance_of(85)
        for _ in range(25):
            web = some_web(chance, chance.choice((3, 7)), 4, 4)
            other = likes(chance, web, chance.sample(range(4), 3))
            told = blame(web, other)
            self.assertEqual(list(told), sorted(told))
            for many in range(5):
                for places in combinations(range(4), many):
                    wanted = brute_sum(exchanged(web, other, list(places)))
                    rules = [rule for lot, rule in told.items() if set(lot) <= set(places)]
                    sums = [sum(rule.table[k] for rule in rules) % web.prime for k in range(1 << len(web.outer))]
                    self.assertEqual(sums, wanted)

    def test_keys_and_rules(self):
        chance = chance_of(86)
        for _ in range(20):
            web = some_web(chance, 3, 3, 3)
            other = likes(chance, web, [0, 2])
            unlike = [k for k in range(3) if web.rules[k] != other.rules[k]]
            wanted = {}
            for many in range(len(unlike) + 1):
                for lot in combinations(unlike, many):
                    rules = list(web.rules)
                    for place in lot:
                        pairs = zip(web.rules[place].table, other.rules[place].table)
                        rules[place] = Rule(3, [(y - x) % 3 for x, y in pairs])
                    sums = brute_sum(Web(3, rules, web.ties, web.outer))
                    if any(sums):
                        wanted[lot] = Rule(3, sums)
            self.assertEqual(list(blame(web, other).items()), sorted(wanted.items(), key=lambda row: row[0]))

    def test_by_hand(self):
        web = Web(7, [Rule(7, [2]), Rule(7, [3])], [], [])
        other = Web(7, [Rule(7, [4]), Rule(7, [1])], [], [])
        told = {(): Rule(7, [6]), (0,): Rule(7, [6]), (0, 1): Rule(7, [3]), (1,): Rule(7, [3])}
        self.assertEqual(list(blame(web, other).items()), list(told.items()))
        self.assertEqual(blame(web, web), {(): Rule(7, [6])})
        zero = Web(7, [Rule(7, [0]), Rule(7, [3])], [], [])
        self.assertEqual(blame(zero, zero), {})
        self.assertEqual(blame(Web(3, [], [], []), Web(3, [], [], [])), {(): Rule(3, [1])})

    def test_limits(self):
        six = Web(7, [Rule(7, [2])] * 6 + [Rule(7, [1])], [], [])
        self.assertEqual(len(blame(BARE, six)), 64)
        self.refuses(TooMany, 6, blame, BARE, Web(7, [Rule(7, [2])] * 7, [], []))
        long = long_web(0)
        other = Web(7, [Rule(7, [3, 3])] * 6 + list(long.rules[6:]), long.ties, [])
        self.refuses(TooMany, 12, blame, long, other)
        self.refuses(TooMany, 6, blame, long, Web(7, [Rule(7, [3, 3])] * 26, long.ties, []))

    def test_refused(self):
        one = Web(7, [Rule(7, [1, 2]), Rule(7, [1])], [], [(0, 0)])
        unlike = [Web(5, [Rule(5, [1, 2]), Rule(5, [1])], [], [(0, 0)]), Web(7, [Rule(7, [1, 2])], [], [(0, 0)]),
                  Web(7, [Rule(7, [1]), Rule(7, [1, 2])], [], [(1, 0)]), Web(7, [], [], [])]
        two = Web(7, [Rule(7, [1, 2, 3, 4])], [], [(0, 0), (0, 1)])
        for other in unlike:
            self.refuses(BadWeb, "other", exchanged, one, other, None)
            self.refuses(BadWeb, "other", blame, one, other)
        self.refuses(BadWeb, "other", blame, two, Web(7, two.rules, [], [(0, 1), (0, 0)]))
        self.refuses(BadWeb, "other", blame, two, Web(7, two.rules, [((0, 0), (0, 1))], []))
        four = Rule(7, [1] * 16)
        self.refuses(BadWeb, "other", blame, Web(7, [four], [((0, 0), (0, 1)), ((0, 2), (0, 3))], []),
                     Web(7, [four], [((0, 0), (0, 2)), ((0, 1), (0, 3))], []))
        for thing in ODD_THINGS:
            self.refuses(BadWeb, None, exchanged, thing, one, None)
            self.refuses(BadWeb, None, exchanged, one, thing, None)
            self.refuses(BadWeb, None, blame, thing, one)
            self.refuses(BadWeb, None, blame, one, thing)
        for thing in (None, 0, [1, 0], [0, 0], [2], [-1], [True], "0"):
            self.refuses(BadNumber, "places", exchanged, one, one, thing)
