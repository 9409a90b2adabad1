from classhelpers import plain_unit, some_affine_rule
from helpers import ODD_THINGS, Case, brute_sum, chance_of, grid_web, some_web, swept_sum
from test_limits import pairs_web

from onebasis.affine import Affine, affine_rule
from onebasis.affinesums import affine_sum
from onebasis.errors import BadWeb, NotAffine
from onebasis.foundaffine import affine_form
from onebasis.rules import Rule
from onebasis.webs import Web, is_flat


def with_rules(chance, web, make):
    """The web with made-up rules in the place of its own."""
    return Web(web.prime, [make(chance, web.prime, rule.legs) for rule in web.rules], web.ties, web.outer)


def some_wide_rule(chance, prime, legs):
    """A made-up affine rule that is nowhere 0."""
    ways = [tuple(1 if leg == k else 0 for leg in range(legs)) for k in range(legs)]
    powers = [chance.randrange(plain_unit(prime)[1]) for _ in ways]
    pairs = [(j, k) for j in range(legs) for k in range(j + 1, legs) if chance.randrange(2)]
    return affine_rule(Affine(prime, legs, chance.randrange(1, prime), (0,) * legs, ways, powers, pairs))


class AffineSums(Case):
    def test_against_all_bits(self):
        chance = chance_of(640)
        met = {"whole": 0, "outer": 0, "crossed": 0, "zero": 0}
        for number in range(300):
            web = some_web(chance, (3, 5, 7, 13, 17)[number % 5], chance.randrange(6), chance.randrange(8))
            web = with_rules(chance, web, (some_affine_rule, some_wide_rule)[number // 5 % 2])
            told = affine_sum(web)
            wanted = Rule(web.prime, brute_sum(web))
            self.assertEqual(affine_rule(told), wanted)
            self.assertEqual(told, affine_form(wanted))
            met["whole"] += any(wanted.table)
            met["zero"] += not any(wanted.table)
            met["outer"] += any(wanted.table) and len(web.outer) > 1
            met["crossed"] += any(wanted.table) and not is_flat(web)
        self.assertGreater(min(met.values()), 20)

    def test_long_webs_place_by_place(self):
        chance = chance_of(641)
        met = 0
        for number in range(24):
            web = grid_web(chance, (5, 7, 13)[number % 3], 3, 8, number % 4, some_wide_rule)
            told = affine_sum(web)
            self.assertEqual(list(affine_rule(told).table), swept_sum(web))
            met += told.number != 0
        self.assertGreater(met, 5)

    def test_limits(self):
        for prime in (3, 5, 97):
            web = pairs_web(prime, Rule(prime, [1] * 256))
            self.assertEqual(affine_sum(web), Affine(prime, 0, pow(256, 25, prime) * pow(2, 10, prime) % prime, (), [], [], []))
            chance = chance_of(642)
            rule = some_wide_rule(chance, prime, 8)
            web = pairs_web(prime, rule)
            pair = Web(prime, [rule] * 2, web.ties[:8], [])
            number = pow(brute_sum(pair)[0], 25, prime) * pow(2, 10, prime) % prime
            self.assertEqual(affine_sum(web).number, number)
            self.assertEqual(affine_sum(Web(prime, [], [], [])), Affine(prime, 0, 1, (), [], [], []))
            eight = Web(prime, [rule], [], [(0, 7 - k) for k in range(8)])
            self.assertEqual(list(affine_rule(affine_sum(eight)).table), brute_sum(eight))

    def test_refused(self):
        for thing in ODD_THINGS:
            self.refuses(BadWeb, None, affine_sum, thing)
        good, bad = Rule(7, [1, 6]), Rule(7, [1, 2])
        for rules, place in (([bad], 0), ([good, bad], 1), ([good, good, bad, bad], 2), ([Rule(7, [0, 0]), bad], 1)):
            web = Web(7, rules, [], [(k, 0) for k in range(len(rules))])
            self.refuses(NotAffine, place, affine_sum, web)

    def test_example(self):
        web = Web(5, [Rule(5, [1, 1, 1, 4])], [((0, 0), (0, 1))], [])
        self.assertEqual(affine_sum(web), Affine(5, 0, 0, (), [], [], []))
