from itertools import product

from helpers import ODD_THINGS, Case, at, brute_sum, chance_of, some_rule, some_web

from onebasis.around import around, delta, weighed, with_rule
from onebasis.errors import BadBits, BadNumber, BadRule, BadWeb, TooMany
from onebasis.rules import Rule
from onebasis.webs import Web

LOOP = Web(7, [Rule(7, [1, 2, 3, 4])], [((0, 0), (0, 1))], [])


def long_web(outer):
    """Thirteen ties and outer legs in one row of places."""
    rules = [Rule(7, [1, 2])] * (26 - outer)
    pairs = [((2 * k, 0), (2 * k + 1, 0)) for k in range(13 - outer)]
    return Web(7, rules, pairs, [(k, 0) for k in range(26 - 2 * outer, 26 - outer)])


class Around(Case):
    def test_with_rule(self):
        web = with_rule(LOOP, 0, Rule(7, [5, 6, 0, 1]))
        self.assertEqual(web, Web(7, [Rule(7, [5, 6, 0, 1])], [((0, 0), (0, 1))], []))
        self.assertEqual(LOOP.rules, (Rule(7, [1, 2, 3, 4]),))
        for thing in ODD_THINGS:
            self.refuses(BadWeb, None, with_rule, thing, 9, None)
            self.refuses(BadRule, None, with_rule, LOOP, 9, thing)
        for thing in (1, -1, True, False, None, 0.0):
            self.refuses(BadNumber, "place", with_rule, LOOP, thing, Rule(5, [1]))
        for rule in (Rule(5, [1, 2, 3, 4]), Rule(7, [1, 2]), Rule(7, [1] * 8)):
            self.refuses(BadRule, "rule", with_rule, LOOP, 0, rule)

    def test_delta(self):
        self.assertEqual(delta(3, ()), Rule(3, [1]))
        self.assertEqual(delta(7, (1, 0)), Rule(7, [0, 0, 1, 0]))
        self.assertEqual(delta(97, (1,) * 8), Rule(97, [0] * 255 + [1]))
        for thing in (2, 9, 99, None, True):
            self.refuses(BadRule, "prime", delta, thing, None)
        for thing in ([0], (2,), (True,), (None,), (0,) * 9, None, "0", 0):
            self.refuses(BadBits, None, delta, 3, thing)

    def test_weighed(self):
        self.same(weighed(Rule(7, [1, 2, 3, 4]), Rule(7, [5, 6, 0, 1])), (5 + 12 + 4) % 7)
        self.same(weighed(Rule(3, [2]), Rule(3, [2])), 1)
        self.refuses(BadRule, "other", weighed, Rule(7, [1]), Rule(5, [1]))
        self.refuses(BadRule, "other", weighed, Rule(7, [1]), Rule(7, [1, 1]))
        for thing in ODD_THINGS:
            self.refuses(BadRule, None, weighed, Rule(7, [1]), thing)
            self.refuses(BadRule, None, weighed, thing, Rule(7, [1]))

    def test_by_hand(self):
        self.assertEqual(around(LOOP, 0, ()), Rule(7, [1, 0, 0, 1]))
        self.assertEqual(weighed(LOOP.rules[0], around(LOOP, 0, ())), 5)
        other = Rule(7, [5, 6, 0, 1])
        self.assertEqual(weighed(other, around(LOOP, 0, ())), 6)
        self.assertEqual(brute_sum(with_rule(LOOP, 0, other)), [6])

    def test_around_tells_each_sum(self):
        chance = chance_of(80)
        for _ in range(25):
            web = some_web(chance, chance.choice((3, 97)), 3, 3)
            for place, rule in enumerate(web.rules):
                other = some_rule(chance, web.prime, rule.legs)
                sums = brute_sum(with_rule(web, place, other))
                for k, bits in enumerate(product((0, 1), repeat=len(web.outer))):
                    told = around(web, place, bits)
                    self.assertEqual(weighed(other, told), sums[k])
                    for b in product((0, 1), repeat=rule.legs):
                        single = brute_sum(with_rule(web, place, delta(web.prime, b)))
                        self.assertEqual(at(told, b), single[k])

    def test_place_without_legs(self):
        web = Web(7, [Rule(7, [2]), Rule(7, [3])], [], [])
        self.assertEqual(around(web, 0, ()), Rule(7, [3]))
        self.assertEqual(around(web, 1, ()), Rule(7, [2]))

    def test_refused(self):
        for thing in ODD_THINGS:
            self.refuses(BadWeb, None, around, thing, 9, None)
        for thing in (-1, 26, None, True, "0"):
            self.refuses(BadNumber, "place", around, long_web(0), thing, None)
        for thing in (None, [], (0,), 0):
            self.refuses(BadBits, None, around, long_web(0), 0, thing)
        for thing in ([0], (), (0, 0), (2,), (True,)):
            self.refuses(BadBits, None, around, long_web(1), 0, thing)
        self.refuses(TooMany, 12, around, long_web(0), 0, ())
        self.refuses(TooMany, 12, around, long_web(1), 0, (0,))
