from itertools import product

from helpers import ODD_THINGS, Case, brute_sum, chance_of, some_rule, some_web
from test_limits import pairs_web

from onebasis.around import around, weighed, with_rule
from onebasis.errors import BadNumber, BadRule, BadWeb, TooMany
from onebasis.legwork import bits_of
from onebasis.rules import Rule
from onebasis.wants import barring, fitting
from onebasis.webs import Web, plain_sum


def all_rules(prime, legs):
    return [Rule(prime, table) for table in product(range(prime), repeat=1 << legs)]


class Wants(Case):
    def test_by_trying_all_rules(self):
        chance = chance_of(820)
        met = {"fits": 0, "barred": 0, "several": 0, "one": 0}
        for number in range(200):
            prime = (3, 5)[number % 2]
            most = 2 if prime == 3 else 1
            web = some_web(chance, prime, chance.randrange(1, 4), chance.randrange(4), 2)
            places = [place for place, rule in enumerate(web.rules) if rule.legs <= most]
            if not places or len(web.outer) > most:
                continue
            place = chance.choice(places)
            wanted = some_rule(chance, prime, len(web.outer))
            if number % 3:
                wanted = Rule(prime, brute_sum(with_rule(web, place, some_rule(chance, prime, web.rules[place].legs))))
            every = all_rules(prime, web.rules[place].legs)
            sums = {rule.table: Rule(prime, brute_sum(with_rule(web, place, rule))) for rule in every}
            fit = [rule for rule in every if sums[rule.table] == wanted]
            told, bar = fitting(web, place, wanted), barring(web, place, wanted)
            if fit:
                self.assertIs(type(told), tuple)
                self.assertEqual(told, (fit[0], len(fit)))
                self.assertIsNone(bar)
                met["fits"] += 1
                met["several" if len(fit) > 1 else "one"] += 1
            else:
                self.assertIsNone(told)
                bars = [rule for rule in all_rules(prime, len(web.outer)) if weighed(rule, wanted) == 1
                        and all(weighed(rule, sums[table]) == 0 for table in sums)]
                self.assertEqual(bar, bars[0])
                met["barred"] += 1
        self.assertGreater(min(met.values()), 8)

    def test_greater_webs(self):
        chance = chance_of(821)
        met = {True: 0, False: 0}
        for number in range(100):
            prime = (5, 97)[number % 2]
            web = some_web(chance, prime, chance.randrange(1, 5), chance.randrange(8), 4)
            place = chance.randrange(len(web.rules))
            wanted = some_rule(chance, prime, len(web.outer))
            if number % 3:
                wanted = plain_sum(with_rule(web, place, some_rule(chance, prime, web.rules[place].legs)))
            told, bar = fitting(web, place, wanted), barring(web, place, wanted)
            self.assertNotEqual(told is None, bar is None)
            met[told is None] += 1
            tables = [around(web, place, bits_of(k, len(web.outer))) for k in range(1 << len(web.outer))]
            if told is not None:
                self.assertEqual(plain_sum(with_rule(web, place, told[0])), wanted)
                powers = [prime ** k for k in range((1 << web.rules[place].legs) + 1)]
                self.assertIn(told[1], powers)
            else:
                self.assertEqual(weighed(bar, wanted), 1)
                for k in range(1 << web.rules[place].legs):
                    self.assertEqual(sum(x * rule.table[k] for x, rule in zip(bar.table, tables)) % prime, 0)
        self.assertGreater(min(met.values()), 5)

    def test_edges(self):
        web = Web(3, [Rule(3, [2])], [], [])
        self.assertEqual(fitting(web, 0, Rule(3, [1])), (Rule(3, [1]), 1))
        self.assertIsNone(barring(web, 0, Rule(3, [1])))
        zero = Web(3, [Rule(3, [2]), Rule(3, [0])], [], [])
        self.assertEqual(fitting(zero, 0, Rule(3, [0])), (Rule(3, [0]), 3))
        self.assertEqual(barring(zero, 0, Rule(3, [2])), Rule(3, [2]))
        chance = chance_of(822)
        eight = Web(97, [some_rule(chance, 97, 8)], [], [(0, 7 - k) for k in range(8)])
        wanted = some_rule(chance, 97, 8)
        told = fitting(eight, 0, wanted)
        self.assertEqual((plain_sum(with_rule(eight, 0, told[0])), told[1]), (wanted, 1))
        loops = Web(97, [some_rule(chance, 97, 8)], [((0, 2 * k), (0, 2 * k + 1)) for k in range(4)], [])
        self.assertEqual(fitting(loops, 0, Rule(97, [0])), (Rule(97, [0] * 256), 97 ** 255))
        self.assertEqual(fitting(loops, 0, Rule(97, [5])), (Rule(97, [0] * 255 + [5]), 97 ** 255))

    def test_refused(self):
        web = Web(3, [Rule(3, [1, 2]), Rule(3, [1])], [], [(0, 0)])
        wanted = Rule(3, [1, 1])
        for call in (fitting, barring):
            for thing in ODD_THINGS:
                self.refuses(BadWeb, None, call, thing, None, None)
                self.refuses(BadRule, None, call, web, None, thing)
            for place in (None, True, 1.0, "0", -1, 2, (0,)):
                self.refuses(BadNumber, "place", call, web, place, Rule(5, [1]))
            for rule in (Rule(5, [1, 1]), Rule(3, [1]), Rule(3, [1] * 4)):
                self.refuses(BadRule, "wanted", call, web, 0, rule)
            long = pairs_web(3, Rule(3, [1] * 256))
            self.refuses(BadRule, "wanted", call, long, 0, wanted)
            self.refuses(TooMany, 12, call, long, 0, Rule(3, [1]))
