from itertools import combinations, product

from helpers import ODD_THINGS, Case, at, brute_sum, chance_of, grid_web, some_rule, some_web, swept_sum
from test_affinesums import with_rules
from test_classcounts import is_split
from test_foundproducts import partitions
from test_limits import pairs_web

from onebasis.classcounts import short_many
from onebasis.errors import BadRule, BadWeb, NotShort
from onebasis.foundproducts import product_form
from onebasis.rules import Rule, beside
from onebasis.shorts import bunches_of, factors, short_sum
from onebasis.webs import Web, is_flat


def some_product_of(chance, prime, legs, most):
    """A made-up product of rules of at most so many legs each, on mixed legs."""
    every = list(range(legs))
    chance.shuffle(every)
    lots = []
    while every:
        many = chance.randrange(1, most + 1)
        lot, every = sorted(every[:many]), every[many:]
        lots.append((lot, some_rule(chance, prime, len(lot))))
    return Rule(prime, product_table(prime, legs, lots))


def product_table(prime, legs, lots):
    """The table of the product of rules on lots of legs."""
    table = []
    for bits in product((0, 1), repeat=legs):
        number = 1
        for lot, rule in lots:
            number = number * at(rule, [bits[leg] for leg in lot]) % prime
        table.append(number)
    return table


def some_short(chance, prime, legs):
    return some_product_of(chance, prime, legs, 2)


class Shorts(Case):
    def test_bunches_by_trying(self):
        chance = chance_of(675)
        met = {}
        for number in range(200):
            prime, legs = (3, 5, 97)[number % 3], chance.randrange(6)
            rule = some_product_of(chance, prime, legs, 3) if number % 4 else some_rule(chance, prime, legs)
            told = bunches_of(rule)
            if not any(rule.table):
                self.same(told, [])
                continue
            fitting = [lots for lots in partitions(list(range(legs))) if all(is_split(rule, lot) for lot in lots)]
            most = [lots for lots in fitting if len(lots) == max(len(lots) for lots in fitting)]
            self.assertEqual(len(most), 1)
            self.same(told, sorted(tuple(lot) for lot in most[0]))
            # Each way to part the rule in two has each bunch on one side.
            for many in range(legs + 1):
                for some in combinations(range(legs), many):
                    together = all(set(bunch) <= set(some) or not set(bunch) & set(some) for bunch in told)
                    self.assertEqual(is_split(rule, some), together)
            met[len(told)] = met.get(len(told), 0) + 1
        self.assertGreater(min(met[k] for k in range(5)), 3)

    def test_factors(self):
        chance = chance_of(676)
        for number in range(150):
            prime, legs = (3, 5, 97)[number % 3], chance.randrange(9)
            rule = some_product_of(chance, prime, legs, 4)
            told = factors(rule)
            self.assertIs(type(told), tuple)
            if not any(rule.table):
                self.assertEqual(told, (0, []))
                continue
            bunches = bunches_of(rule)
            self.assertEqual(sorted(leg for bunch in bunches for leg in bunch), list(range(legs)))
            self.assertEqual(bunches, sorted(bunches))
            self.assertEqual([factor.legs for factor in told[1]], [len(bunch) for bunch in bunches])
            table = product_table(prime, legs, list(zip(bunches, told[1])))
            self.assertEqual([told[0] * number % prime for number in table], list(rule.table))
            for factor in told[1]:
                self.assertEqual([number for number in factor.table if number][0], 1)
                self.assertEqual(bunches_of(factor), [tuple(range(factor.legs))])
            fits = [len([k for k in range(len(factor.table)) if factor.table[k]]) for factor in told[1]]
            spaces = [[k for k in range(len(factor.table)) if factor.table[k]] for factor in told[1]]
            plain = all(many == 1 or (many == 2 and sum(space) == len(factor.table) - 1)
                        for many, space, factor in zip(fits, spaces, told[1]))
            self.assertEqual(product_form(rule) is not None, plain)

    def test_edges(self):
        self.same(bunches_of(Rule(3, [2])), [])
        self.same(factors(Rule(3, [2])), (2, []))
        self.same(bunches_of(Rule(3, [0])), [])
        self.same(bunches_of(Rule(97, [0] * 256)), [])
        self.same(factors(Rule(97, [0] * 256)), (0, []))
        self.assertEqual(bunches_of(Rule(97, [5] * 256)), [(k,) for k in range(8)])
        self.assertEqual(factors(Rule(97, [5] * 256)), (5, [Rule(97, [1, 1])] * 8))
        self.assertEqual(bunches_of(some_rule(chance_of(677), 97, 8)), [tuple(range(8))])
        pair = Rule(5, [1, 2, 3, 4])
        self.assertEqual(bunches_of(beside(pair, pair)), [(0, 1), (2, 3)])
        self.assertEqual(factors(Rule(5, [0, 0, 3, 4])), (3, [Rule(5, [0, 1]), Rule(5, [1, 3])]))

    def test_how_many(self):
        short = [rule for rule in (Rule(3, table) for table in product(range(3), repeat=8))
                 if all(len(bunch) < 3 for bunch in bunches_of(rule))]
        self.assertEqual(len(short), short_many(3, 3))

    def test_sums_against_all_bits(self):
        chance = chance_of(678)
        met = {"whole": 0, "outer": 0, "crossed": 0, "zero": 0}
        for number in range(250):
            web = some_web(chance, (3, 5, 97)[number % 3], chance.randrange(6), chance.randrange(9))
            web = with_rules(chance, web, some_short)
            wanted = Rule(web.prime, brute_sum(web))
            self.assertEqual(short_sum(web), wanted)
            met["whole"] += any(wanted.table)
            met["zero"] += not any(wanted.table)
            met["outer"] += any(wanted.table) and len(web.outer) > 1
            met["crossed"] += any(wanted.table) and not is_flat(web)
        self.assertGreater(min(met.values()), 15)

    def test_long_webs(self):
        chance = chance_of(679)
        for number in range(12):
            web = grid_web(chance, (5, 97)[number % 2], 3, 8, number % 4, some_short)
            self.assertEqual(list(short_sum(web).table), swept_sum(web))
        for prime in (3, 97):
            rule = some_short(chance, prime, 8)
            web = pairs_web(prime, rule)
            number = pow(2, 10, prime) * pow(brute_sum(Web(prime, [rule] * 2, web.ties[:8], []))[0], 25, prime) % prime
            self.assertEqual(short_sum(web), Rule(prime, [number]))
            self.assertEqual(short_sum(Web(prime, [], [], [])), Rule(prime, [1]))
            outer = Web(prime, [rule], [], [(0, (3 * k) % 8) for k in range(8)])
            self.assertEqual(list(short_sum(outer).table), brute_sum(outer))
            self.assertEqual(short_sum(Web(prime, [rule, Rule(prime, [0])], [], outer.outer)), Rule(prime, [0] * 256))

    def test_refused(self):
        for thing in ODD_THINGS:
            self.refuses(BadRule, None, bunches_of, thing)
            self.refuses(BadRule, None, factors, thing)
            self.refuses(BadWeb, None, short_sum, thing)
        good, bad = Rule(5, [1] * 8), Rule(5, [1, 0, 0, 0, 0, 0, 0, 1])
        for rules, place in (([bad], 0), ([good, bad], 1), ([good, Rule(5, [0] * 8)], None), ([Rule(5, [0] * 8), bad], 1)):
            web = Web(5, rules, [], [(p, k) for p in range(len(rules)) for k in range(3)])
            if place is None:
                self.assertEqual(short_sum(web), Rule(5, [0] * 64))
            else:
                self.refuses(NotShort, place, short_sum, web)
