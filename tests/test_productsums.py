from classhelpers import plain_product_worth, some_product, some_product_rule
from helpers import ODD_THINGS, Case, brute_sum, chance_of, grid_web, some_web, swept_sum
from test_affinesums import with_rules
from test_limits import pairs_web

from onebasis.errors import BadNumber, BadProduct, BadWeb, NotProduct, TooMany
from onebasis.foundproducts import product_form
from onebasis.products import Product, product_rule
from onebasis.productsums import product_beside, product_closed, product_sum
from onebasis.rules import Rule, beside, closed, ones
from onebasis.webs import Web, is_flat


def some_wide_product(chance, prime, legs):
    """The rule of a made-up product form without a leg that has one bit alone."""
    form = some_product(chance, prime, legs, 0)
    fresh = [(lot, bits, share if share else chance.randrange(1, prime)) for lot, bits, share in form.bunches]
    fresh = [(lot, (0,) * len(lot) if len(lot) == 1 else bits, share) for lot, bits, share in fresh]
    return product_rule(Product(prime, form.number, fresh))


class ProductSums(Case):
    def test_against_rules(self):
        chance = chance_of(670)
        met = {"beside": 0, "closed": 0}
        for number in range(250):
            prime = (3, 5, 97)[number % 3]
            form, other = some_product(chance, prime, chance.randrange(5)), some_product(chance, prime, chance.randrange(5))
            wanted = beside(product_rule(form), product_rule(other))
            self.assertEqual(product_beside(form, other), product_form(wanted))
            met["beside"] += any(wanted.table)
            form = some_product(chance, prime, chance.randrange(2, 8), 0.02)
            one, two = chance.sample(range(form.legs), 2)
            wanted = closed(product_rule(form), one, two)
            self.assertEqual(product_closed(form, one, two), product_form(wanted))
            met["closed"] += any(wanted.table)
        self.assertGreater(min(met.values()), 100)

    def test_sixty_legs_and_two_sequences(self):
        chance = chance_of(671)
        met = 0
        for _ in range(30):
            form, other = some_product(chance, 97, 33, 0), some_product(chance, 97, 27, 0)
            both = product_beside(form, other)
            bits = tuple(chance.randrange(2) for _ in range(60))
            self.assertEqual(plain_product_worth(both, bits),
                             plain_product_worth(form, bits[:33]) * plain_product_worth(other, bits[33:]) % 97)
            self.refuses(TooMany, 60, product_beside, both, Product(97, 1, [((0,), (0,), 1)]))
            self.assertEqual(product_beside(both, Product(97, 1, [])), both)
            legs = list(range(60))
            pairs = [(legs.pop(chance.randrange(len(legs))), legs.pop(chance.randrange(len(legs)))) for _ in range(26)]
            told = []
            for _ in range(2):
                left, fresh = list(range(60)), both
                chance.shuffle(pairs)
                for one, two in pairs:
                    fresh = product_closed(fresh, left.index(one), left.index(two))
                    left = [leg for leg in left if leg not in (one, two)]
                told.append(fresh)
            self.assertEqual(*told)
            self.assertEqual(told[0].legs, 8)
            met += told[0].number != 0
        self.assertGreater(met, 2)

    def test_sums_against_all_bits(self):
        chance = chance_of(672)
        met = {"whole": 0, "outer": 0, "crossed": 0, "zero": 0}
        for number in range(300):
            web = some_web(chance, (3, 5, 7, 97)[number % 4], chance.randrange(6), chance.randrange(8))
            web = with_rules(chance, web, (some_product_rule, some_wide_product)[number // 4 % 2])
            told = product_sum(web)
            wanted = Rule(web.prime, brute_sum(web))
            self.assertEqual(product_rule(told), wanted)
            self.assertEqual(told, product_form(wanted))
            met["whole"] += any(wanted.table)
            met["zero"] += not any(wanted.table)
            met["outer"] += any(wanted.table) and len(web.outer) > 1
            met["crossed"] += any(wanted.table) and not is_flat(web)
        self.assertGreater(min(met.values()), 10)

    def test_long_webs_place_by_place(self):
        chance = chance_of(673)
        met = 0
        for number in range(30):
            make = (some_wide_product, lambda *told: ones(told[1], told[2], [2] + [0] * (told[2] - 1) + [3]))[number % 2]
            web = grid_web(chance, (5, 7, 97)[number % 3], 3, 8, number % 4, make)
            told = product_sum(web)
            self.assertEqual(list(product_rule(told).table), swept_sum(web))
            met += told.number != 0
        self.assertGreater(met, 5)

    def test_limits(self):
        for prime in (3, 97):
            web = pairs_web(prime, Rule(prime, [1] * 256))
            self.assertEqual(product_sum(web), Product(prime, pow(256, 25, prime) * pow(2, 10, prime) % prime, []))
            self.assertEqual(product_sum(Web(prime, [], [], [])), Product(prime, 1, []))
            rule = ones(prime, 8, [1] + [0] * 7 + [2])
            self.assertEqual(product_sum(pairs_web(prime, rule)).number, pow(5, 25, prime) * pow(2, 10, prime) % prime)
            eight = Web(prime, [rule], [], [(0, 7 - k) for k in range(8)])
            self.assertEqual(list(product_rule(product_sum(eight)).table), brute_sum(eight))

    def test_refused(self):
        form, other = Product(5, 2, [((0,), (0,), 1), ((1,), (0,), 1)]), Product(7, 1, [((k,), (0,), 1) for k in range(60)])
        for thing in ODD_THINGS + [Rule(5, [1] * 4)]:
            self.refuses(BadProduct, None, product_beside, thing, None)
            self.refuses(BadProduct, None, product_beside, thing, form)
            self.refuses(BadProduct, None, product_beside, form, thing)
            self.refuses(BadProduct, None, product_closed, thing, None, None)
            self.refuses(BadWeb, None, product_sum, thing)
        self.refuses(BadProduct, "other", product_beside, form, other)
        for thing in (None, True, 1.0, "0", -1, 2, (0,)):
            self.refuses(BadNumber, "leg", product_closed, form, thing, thing)
            self.refuses(BadNumber, "other", product_closed, form, 0, thing)
        for leg in (0, 1):
            self.refuses(BadNumber, "other", product_closed, form, leg, leg)
        good, bad = Rule(7, [1, 6, 1, 6]), Rule(7, [1, 2, 3, 4])
        for rules, place in (([bad], 0), ([good, bad], 1), ([good, good, bad, bad], 2), ([Rule(7, [0] * 4), bad], 1)):
            web = Web(7, rules, [], [(k, j) for k in range(len(rules)) for j in range(2)])
            self.refuses(NotProduct, place, product_sum, web)
