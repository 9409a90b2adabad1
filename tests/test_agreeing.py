"""All ways to a sum agree, and rules flipped, turned, mirrored and scaled do to the sum what point 49 tells."""

from itertools import combinations

from classhelpers import some_affine_rule, some_product_rule
from formhelpers import some_even_rule, some_formed_rule, some_full_rule
from helpers import Case, brute_sum, chance_of, grid_web, some_flat_outer_web, some_web
from test_cuts import some_formed_web
from test_laying import lines_of
from test_shorts import some_short

from onebasis.affine import affine_rule
from onebasis.affinesums import affine_sum
from onebasis.boards import board_sum
from onebasis.classes import class_sum, classes
from onebasis.closings import flat_sum
from onebasis.cuts import cut_sum
from onebasis.lines import line_of
from onebasis.products import product_rule
from onebasis.productsums import product_sum
from onebasis.roads import road_width
from onebasis.roadsums import road_sum
from onebasis.rules import Rule, flipped, mirrored, scaled, turned
from onebasis.shares import pinned
from onebasis.shorts import short_sum
from onebasis.webs import Web, is_flat, plain_sum


def led(web, rules, place_to, outer=None):
    """The web with these rules, its legs led along."""
    ties = [(place_to(one), place_to(other)) for one, other in web.ties]
    return Web(web.prime, rules, ties, [place_to(leg) for leg in (web.outer if outer is None else outer)])


class Agreeing(Case):
    def test_all_ways(self):
        chance = chance_of(495)
        met = 0
        for number in range(60):
            make = (some_formed_rule, some_even_rule, some_full_rule)[number % 3]
            web = some_flat_outer_web(chance, (3, 7)[number % 2], chance.randrange(1, 5), chance.randrange(8), make)
            told = plain_sum(web)
            self.assertEqual(flat_sum(web), told)
            lines = [line_of(web)]
            if sum(rule.legs for rule in web.rules) <= 6:
                lines = lines_of(web)
            for line in lines:
                self.assertEqual(board_sum(web, line), told)
            for many in range(3):
                for ties in list(combinations(web.ties, many))[:6]:
                    self.assertEqual(cut_sum(web, ties), told)
            road = list(range(len(web.rules)))
            chance.shuffle(road)
            if road_width(web, road) <= 10:
                self.assertEqual(road_sum(web, road), told)
            met += any(told.table)
        self.assertGreater(met, 25)

    def test_webs_that_are_not_flat(self):
        chance = chance_of(496)
        met = 0
        for _ in range(60):
            web = some_formed_web(chance, 7, chance.randrange(1, 5), chance.randrange(3, 8))
            told = plain_sum(web)
            for ties in combinations(web.ties, 2):
                if is_flat(pinned(web, ties, (0, 0))):
                    self.assertEqual(cut_sum(web, ties), told)
                    met += not is_flat(web)
            road = list(range(len(web.rules)))
            if road_width(web, road) <= 10:
                self.assertEqual(road_sum(web, road), told)
        self.assertGreater(met, 20)

    def test_many_ties(self):
        chance = chance_of(497)
        for many in (0, 3):
            web = grid_web(chance, 97, 3, 9, many, some_even_rule)
            told = flat_sum(web)
            self.assertEqual(board_sum(web, line_of(web)), told)
            self.assertEqual(road_sum(web, list(range(27))), told)
            self.assertEqual(cut_sum(web, web.ties[3:6]), told)

    def test_classes(self):
        chance = chance_of(499)
        met = {"affine": 0, "product": 0, "short": 0, "form": 0}
        for number in range(150):
            make = (some_affine_rule, some_product_rule, some_short, some_formed_rule)[number % 4]
            web = some_flat_outer_web(chance, (3, 5)[number % 2], chance.randrange(1, 5), chance.randrange(7), make)
            told = plain_sum(web)
            words = classes(web.rules)
            if "affine" in words:
                self.assertEqual(affine_rule(affine_sum(web)), told)
            if "product" in words:
                self.assertEqual(product_rule(product_sum(web)), told)
            if "short" in words:
                self.assertEqual(short_sum(web), told)
            if "form" in words:
                self.assertEqual(flat_sum(web), told)
            if words and words != ["form"]:
                self.assertEqual(class_sum(web), told)
            for word in words:
                met[word] += any(told.table)
        self.assertGreater(min(met.values()), 20)

    def test_flipped_turned_mirrored_scaled(self):
        chance = chance_of(498)
        flat = 0
        for number in range(60):
            web = some_web(chance, 7, chance.randrange(1, 5), chance.randrange(1, 7))
            if number % 2:
                web = some_flat_outer_web(chance, 7, chance.randrange(1, 5), chance.randrange(1, 7), some_formed_rule)
            told = brute_sum(web)
            flat += is_flat(web)
            for tie in web.ties[:1]:
                rules = list(web.rules)
                for place, k in tie:
                    rules[place] = flipped(rules[place], k)
                self.assertEqual(brute_sum(Web(7, rules, web.ties, web.outer)), told)
            place = chance.randrange(len(web.rules))
            legs = web.rules[place].legs
            many = chance.randrange(legs + 1)
            rules = list(web.rules)
            rules[place] = turned(rules[place], many)
            fresh = led(web, rules, lambda leg: (leg[0], (leg[1] - many) % legs) if leg[0] == place else leg)
            self.assertEqual(brute_sum(fresh), told)
            self.assertIs(is_flat(fresh), is_flat(web))
            rules = [mirrored(rule) for rule in web.rules]
            fresh = led(web, rules, lambda leg: (leg[0], web.rules[leg[0]].legs - 1 - leg[1]), web.outer[::-1])
            self.assertEqual(Rule(7, brute_sum(fresh)), mirrored(Rule(7, told)))
            self.assertIs(is_flat(fresh), is_flat(web))
            if number % 2:
                self.assertEqual(flat_sum(fresh), mirrored(Rule(7, told)))
            rules = list(web.rules)
            rules[place] = scaled(rules[place], 3)
            self.assertEqual(Rule(7, brute_sum(Web(7, rules, web.ties, web.outer))), scaled(Rule(7, told), 3))
        self.assertGreater(flat, 25)
