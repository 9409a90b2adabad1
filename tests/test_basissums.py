from formhelpers import some_even_rule, some_formed_rule
from helpers import ODD_THINGS, Case, brute_sum, chance_of, grid_web, some_flat_outer_web, some_rule, swept_sum
from test_limits import pairs_web
from test_lines import CROSSED, FLAT
from test_sided import some_basis

from onebasis.bases import changed, inverse, other_side
from onebasis.basissums import basis_sum
from onebasis.errors import BadSides, BadWeb, NotFlat
from onebasis.foundforms import has_form
from onebasis.lots import first_basis
from onebasis.rules import Rule, ones
from onebasis.sided import side_changed, sides
from onebasis.webs import Web


class BasisSums(Case):
    def test_against_all_bits(self):
        chance = chance_of(570)
        found = {"form": 0, "none": 0, "unformed": 0, "whole": 0, "right": 0}
        for number in range(300):
            make = (some_formed_rule, some_even_rule)[number % 2]
            web = some_flat_outer_web(chance, (3, 5)[number % 2], chance.randrange(1, 6), chance.randrange(7), make)
            lefts = sides(web)
            if lefts is None:
                continue
            if number % 3:
                # Rules that have forms, changed back by some basis, mostly have none themselves.
                web = side_changed(web, lefts, some_basis(chance, web.prime))
            if number % 5 == 0:
                lefts = [place for place in range(len(web.rules)) if place not in lefts]
                found["right"] += 1
            rules = list(web.rules)
            if number % 7 == 0:
                rules[0] = some_rule(chance, web.prime, rules[0].legs)
            web = Web(web.prime, rules, web.ties, web.outer)
            ones_left = [rule for place, rule in enumerate(rules) if place in lefts]
            others = [rule for place, rule in enumerate(rules) if place not in lefts]
            wanted = first_basis(web.prime, ones_left, others)
            told = basis_sum(web, tuple(lefts))
            if wanted is None:
                self.assertIsNone(told)
                found["none"] += 1
                continue
            self.assertIs(type(told), tuple)
            self.assertEqual(told, (wanted, Rule(web.prime, brute_sum(web))))
            found["form"] += 1
            found["unformed"] += not any(has_form(rule) for rule in rules)
            found["whole"] += any(told[1].table)
        self.assertGreater(min(found.values()), 5)

    def test_many_ties(self):
        chance = chance_of(571)
        web = grid_web(chance, 5, 3, 8, 3, some_even_rule)
        lefts = sides(web)
        for _ in range(3):
            told = side_changed(web, lefts, some_basis(chance, 5))
            basis, found = basis_sum(told, lefts)
            self.assertEqual(list(found.table), swept_sum(told))
        basis = some_basis(chance, 3)
        rules = [changed(some_even_rule(chance, 3, 8), inverse(basis)), changed(some_even_rule(chance, 3, 8),
                                                                               inverse(other_side(basis)))]
        plain = pairs_web(3, rules[0])
        wide = Web(3, rules * 25 + list(plain.rules[50:]), plain.ties, [])
        pair = Web(3, rules, wide.ties[:8], [])
        number = 2 ** 10
        for _ in range(25):
            number = number * brute_sum(pair)[0] % 3
        self.assertEqual(basis_sum(wide, sides(wide))[1], Rule(3, [number]))

    def test_without_a_basis(self):
        row = Web(3, [ones(3, 3, [1, 1, 0, 2]), ones(3, 3, [1, 0, 0, 2])],
                  [((0, 0), (1, 2)), ((0, 1), (1, 1)), ((0, 2), (1, 0))], [])
        self.assertIsNone(basis_sum(row, [0]))
        self.assertIsNone(first_basis(3, row.rules[:1], row.rules[1:]))
        basis, found = basis_sum(Web(3, [], [], []), [])
        self.assertEqual((basis, found), (first_basis(3, [], []), Rule(3, [1])))

    def test_refused(self):
        for thing in ODD_THINGS:
            self.refuses(BadWeb, None, basis_sum, thing, None)
        for thing in (None, 0, [], [0, 1], [1, 0], [2], [True]):
            self.refuses(BadSides, None, basis_sum, CROSSED, thing)
        self.refuses(NotFlat, None, basis_sum, CROSSED, [0])
        none = [ones(3, 3, [1, 1, 0, 2]), ones(3, 3, [1, 0, 0, 2])]
        self.refuses(NotFlat, None, basis_sum, Web(3, none, CROSSED.ties, []), [0])
        self.assertEqual(basis_sum(FLAT, [1])[1], Rule(5, [2]))
