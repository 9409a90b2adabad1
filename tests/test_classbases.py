from classhelpers import some_affine_rule, some_product_rule
from helpers import ODD_THINGS, Case, brute_sum, chance_of, some_rule
from test_affinesums import some_wide_rule
from test_limits import pairs_web
from test_lines import CROSSED, FLAT
from test_productsums import some_wide_product
from test_sided import some_basis, some_two_sided
from test_tiebases import all_of

from onebasis.alike import all_bases
from onebasis.bases import Basis, changed, inverse, other_side, times
from onebasis.classbases import affine_bases, affine_kinds, class_basis_sum, product_bases
from onebasis.errors import BadLot, BadRule, BadSides, BadWeb, TooMany
from onebasis.foundaffine import affine_form
from onebasis.foundproducts import product_form
from onebasis.rules import Rule, ones
from onebasis.sided import side_changed, sides
from onebasis.units import unit
from onebasis.webs import Web, is_flat


def lots_of_kindred(prime):
    """The lots of the rows of kindred bases, by multiplying."""
    steps = [Basis(prime, ((n, 0), (0, n))) for n in range(1, prime)]
    steps += [Basis(prime, rows) for rows in (((1, 0), (0, unit(prime)[0])), ((0, 1), (1, 0)), ((1, 1), (1, prime - 1)))]
    left = {basis.rows for basis in all_of(prime)}
    lots = []
    while left:
        lot = reached = {min(left)}
        while reached:
            reached = {times(Basis(prime, rows), step).rows for rows in reached for step in steps} - lot
            lot = lot | reached
        lots.append(lot)
        left -= lot
    return lots


def fits(basis, lefts, rights, form):
    """Whether all of a lot has such a form under the basis."""
    return all(form(changed(rule, basis)) is not None for rule in lefts) and all(
        form(changed(rule, other_side(basis))) is not None for rule in rights)


class ClassBases(Case):
    def test_kinds(self):
        for prime in (3, 5, 7):
            wanted = []
            for lot in lots_of_kindred(prime):
                led = [rows for rows in lot if [x for x in rows[0] + rows[1] if x][0] == 1]
                wanted.append(Basis(prime, min(led)))
            self.assertEqual(affine_kinds(prime), sorted(wanted, key=lambda basis: basis.rows))
            self.assertIs(type(affine_kinds(prime)), list)
        for prime in (3, 5, 7, 11, 13):
            told = affine_kinds(prime)
            self.assertEqual(len(told), (prime ** 3 - prime) // (24 if unit(prime)[1] == 4 else 8))
            self.assertEqual([basis.rows for basis in told], sorted(basis.rows for basis in told))

    def test_bases_by_trying(self):
        chance = chance_of(690)
        met = {"affine": 0, "not affine": 0, "product": 0, "no product": 0}
        for number in range(60):
            prime = (3, 5)[number % 2]
            basis = some_basis(chance, prime)
            make = (some_affine_rule, some_product_rule, some_rule)[number % 3]
            lefts = [changed(make(chance, prime, chance.randrange(4)), inverse(basis)) for _ in range(chance.randrange(3))]
            rights = [changed(make(chance, prime, chance.randrange(4)), inverse(other_side(basis)))
                      for _ in range(chance.randrange(3))]
            told = affine_bases(prime, lefts, rights)
            self.assertEqual(told, [basis for basis in affine_kinds(prime) if fits(basis, lefts, rights, affine_form)])
            self.assertEqual(bool(told), any(fits(basis, lefts, rights, affine_form) for basis in all_of(prime)))
            met["affine" if told else "not affine"] += 1
            told = product_bases(prime, tuple(lefts), tuple(rights))
            self.assertEqual(told, [basis for basis in all_bases(prime) if fits(basis, lefts, rights, product_form)])
            self.assertEqual(bool(told), any(fits(basis, lefts, rights, product_form) for basis in all_of(prime)))
            met["product" if told else "no product"] += 1
        self.assertGreater(min(met.values()), 8)

    def test_sums_against_all_bits(self):
        chance = chance_of(691)
        met = {"affine": 0, "product": 0, None: 0, "outer": 0, "crossed": 0, "whole": 0}
        for number in range(200):
            prime = (3, 5, 7, 13)[number % 4]
            make = (some_affine_rule, some_product_rule, some_wide_rule, some_wide_product)[number // 4 % 4]
            web, lefts = some_two_sided(chance, prime, chance.randrange(1, 5), chance.randrange(7), make)
            if number % 3:
                web = side_changed(web, lefts, some_basis(chance, prime))
            if number % 7 == 0:
                web = Web(prime, [some_rule(chance, prime, rule.legs) for rule in web.rules], web.ties, web.outer)
            rules = [rule for place, rule in enumerate(web.rules) if place in lefts]
            others = [rule for place, rule in enumerate(web.rules) if place not in lefts]
            told = class_basis_sum(web, tuple(lefts))
            affine, plain = affine_bases(prime, rules, others), product_bases(prime, rules, others)
            if not affine and not plain:
                self.assertIsNone(told)
                met[None] += 1
                continue
            self.assertIs(type(told), tuple)
            word, basis, found = told
            self.assertEqual(word, "affine" if affine else "product")
            self.assertEqual(basis, (affine + plain)[0])
            self.assertEqual(found, Rule(prime, brute_sum(web)))
            met[word] += 1
            met["outer"] += any(found.table) and len(web.outer) > 1
            met["crossed"] += any(found.table) and not is_flat(web)
            met["whole"] += any(found.table)
        self.assertGreater(min(met.values()), 8)

    def test_many_ties(self):
        chance = chance_of(692)
        for prime in (3, 13):
            rules = []
            basis = some_basis(chance, prime)
            for back in (inverse(basis), inverse(other_side(basis))):
                rules.append(changed(some_wide_rule(chance, prime, 8), back))
            plain = pairs_web(prime, rules[0])
            web = Web(prime, rules * 25 + list(plain.rules[50:]), plain.ties, [])
            number = pow(2, 10, prime) * pow(brute_sum(Web(prime, rules, web.ties[:8], []))[0], 25, prime) % prime
            word, _, found = class_basis_sum(web, sides(web))
            self.assertEqual((word, found), ("affine", Rule(prime, [number])))

    def test_edges(self):
        for prime in (3, 13):
            empty = Web(prime, [], [], [])
            self.assertEqual(class_basis_sum(empty, []), ("affine", affine_kinds(prime)[0], Rule(prime, [1])))
            self.assertEqual(affine_bases(prime, [], []), affine_kinds(prime))
            self.assertEqual(product_bases(prime, [], []), all_bases(prime))
        self.assertEqual(len(affine_bases(5, [Rule(5, [0] * 256)] * 60, [Rule(5, [1])] * 60)), 5)
        for web, lefts in ((FLAT, [1]), (CROSSED, [0])):
            self.assertIsNone(class_basis_sum(web, lefts))
            rules = [web.rules[place] for place in lefts]
            others = [web.rules[1 - place] for place in lefts]
            for form in (affine_form, product_form):
                self.assertFalse(any(fits(basis, rules, others, form) for basis in all_of(5)))

    def test_refused(self):
        rule = Rule(3, [1, 2])
        for call in (affine_bases, product_bases):
            for thing in ODD_THINGS + [2, 9, 99]:
                self.refuses(BadRule, "prime", call, thing, None, None)
            for thing in (None, 5, [None], [rule, 1], [Rule(5, [1])], [rule] * 61, {0: rule}):
                self.refuses(BadLot, "lefts", call, 3, thing, None)
                self.refuses(BadLot, "rights", call, 3, [], thing)
            for prime in (17, 97):
                self.refuses(BadLot, "lefts", call, prime, None, None)
                self.refuses(BadLot, "rights", call, prime, [], None)
                self.refuses(TooMany, 13, call, prime, [], [])
        for thing in ODD_THINGS + [2, 9, 99]:
            self.refuses(BadRule, "prime", affine_kinds, thing)
        for prime in (17, 97):
            self.refuses(TooMany, 13, affine_kinds, prime)
            web = Web(prime, [ones(prime, 1, [1, 1])] * 2, [((0, 0), (1, 0))], [])
            self.refuses(BadSides, None, class_basis_sum, web, [])
            self.refuses(TooMany, 13, class_basis_sum, web, [1])
        for thing in ODD_THINGS:
            self.refuses(BadWeb, None, class_basis_sum, thing, None)
        for thing in (None, 0, [], [0, 1], [1, 0], [2], [True]):
            self.refuses(BadSides, None, class_basis_sum, CROSSED, thing)
