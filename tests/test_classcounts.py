from itertools import combinations, product

from helpers import ODD_THINGS, Case, at
from test_foundaffine import all_affines
from test_foundproducts import all_products

from onebasis.classcounts import affine_many, product_many, short_many
from onebasis.errors import BadNumber, BadRule
from onebasis.foundaffine import affine_form
from onebasis.foundproducts import product_form
from onebasis.rules import Rule


def is_split(rule, some):
    """Whether a rule is a product of a rule of some legs and one of the others."""
    every = list(product((0, 1), repeat=rule.legs))
    for a, b in product(every, repeat=2):
        first = tuple(b[k] if k in some else a[k] for k in range(rule.legs))
        second = tuple(a[k] if k in some else b[k] for k in range(rule.legs))
        if (at(rule, a) * at(rule, b) - at(rule, first) * at(rule, second)) % rule.prime:
            return False
    return True


def is_plainly_short(rule):
    """Whether a rule of at most three legs is a product of rules of at most two legs."""
    if rule.legs < 3 or not any(rule.table):
        return True
    return any(is_split(rule, some) for some in combinations(range(3), 1))


class ClassCounts(Case):
    def test_all_tables(self):
        for prime, legs in ((3, 0), (3, 1), (3, 2), (3, 3), (5, 0), (5, 1), (5, 2), (7, 0), (7, 1), (97, 0), (97, 1)):
            rules = [Rule(prime, table) for table in product(range(prime), repeat=1 << legs)]
            self.same(affine_many(prime, legs), sum(affine_form(rule) is not None for rule in rules))
            self.same(product_many(prime, legs), sum(product_form(rule) is not None for rule in rules))
            if legs < 3:
                self.same(short_many(prime, legs), len(rules))
        rules = [Rule(3, table) for table in product(range(3), repeat=8)]
        self.same(short_many(3, 3), sum(is_plainly_short(rule) for rule in rules))

    def test_all_forms(self):
        for prime, legs in ((3, 4), (5, 3)):
            self.assertEqual(affine_many(prime, legs), len(all_affines(prime, legs)))
            self.assertEqual(product_many(prime, legs), len(all_products(prime, legs)))

    def test_short_of_four_legs(self):
        # Four legs: parted in no pair, in one, or in two of them.
        for prime in (3, 5, 97):
            one, two = prime + 1, (prime ** 4 - 1) // (prime - 1) - (prime + 1) ** 2
            self.assertEqual(short_many(prime, 4), 1 + (prime - 1) * (one ** 4 + 6 * one ** 2 * two + 3 * two ** 2))
            self.assertEqual(short_many(prime, 3), 1 + (prime - 1) * (one ** 3 + 3 * one * two))

    def test_eight_legs(self):
        for prime in (3, 97):
            for call in (affine_many, product_many, short_many):
                told = [call(prime, legs) for legs in range(9)]
                self.assertEqual(told[0], prime)
                self.assertEqual(told, sorted(told))
                self.assertEqual([number % (prime - 1) for number in told], [1] * 9)

    def test_refused(self):
        for call in (affine_many, product_many, short_many):
            for thing in ODD_THINGS + [2, 9, 99, 101]:
                self.refuses(BadRule, "prime", call, thing, None)
            for thing in (None, True, 1.0, "1", -1, 9):
                self.refuses(BadNumber, "legs", call, 5, thing)
