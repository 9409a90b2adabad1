from itertools import product

from classhelpers import plain_product_table, plain_product_worth, some_product
from helpers import ODD_THINGS, Case, chance_of

from onebasis.errors import BadBits, BadProduct, TooMany
from onebasis.products import Product, product_rule, product_worth
from onebasis.rules import Rule

BUNCHES = [((0, 3), (0, 1), 2), ((1,), (1,), 0), ((2,), (0,), 4)]


class Products(Case):
    def test_attributes(self):
        form = Product(5, 3, BUNCHES)
        self.same((form.prime, form.number, form.bunches, form.legs), (5, 3, tuple(BUNCHES), 4))
        self.assertEqual(form, Product(prime=5, number=3, bunches=tuple(BUNCHES)))
        self.assertNotEqual(form, Product(7, 3, BUNCHES))
        self.assertNotEqual(form, Product(5, 2, BUNCHES))
        self.assertNotEqual(form, Product(5, 3, BUNCHES[:2] + [((2,), (0,), 3)]))
        self.assertNotEqual(form, (5, 3, tuple(BUNCHES)))
        self.assertNotEqual(form, None)

    def test_each_refusal(self):
        for thing in ODD_THINGS + [2, 9, 99, 101]:
            self.refuses(BadProduct, "prime", Product, thing, None, None)
        for thing in (None, True, 1.0, "1", -1, 5):
            self.refuses(BadProduct, "number", Product, 5, thing, None)
        one = ((0,), (0,), 1)
        wrong = [None, 5, {}, "ab", [None], [()], [one[:2]], [one + (0,)], [list(one)], [([0], (0,), 1)],
                 [((0,), [0], 1)], [((), (), 1)], [((), (), 0)], [((0,), (), 1)], [((0,), (0, 0), 1)], [((0,), (2,), 1)],
                 [((0,), (True,), 0)], [((0,), (0,), 5)], [((0,), (0,), -1)], [((0,), (0,), True)], [((0,), (0,), None)],
                 [((0,), (1,), 1)], [((0, 1), (1, 0), 2)], [((0, 1), (0, 0), 0)], [((1, 0), (0, 0), 1)],
                 [((0, 0), (0, 0), 1)], [one, one], [((1,), (0,), 1)], [one, ((2,), (0,), 1)], [((1,), (0,), 1), one],
                 [((0, 1), (0, 0), 1), ((1,), (0,), 1)], [((0, 2), (0, 0), 1)], [((True,), (0,), 1)], [((-1,), (0,), 1)],
                 [((0, 1.0), (0, 0), 1)], [((0, 2), (0, 0), 1), ((2,), (0,), 1)], [one[0], one[1], one[2]]]
        for thing in wrong:
            self.refuses(BadProduct, "bunches", Product, 5, 1, thing)
        for thing in ([one], [((0,), (1,), 0)], [((0, 1), (0, 0), 1)]):
            self.assertEqual(Product(5, 1, thing).bunches, tuple(thing))
            self.refuses(BadProduct, "bunches", Product, 5, 0, thing)
        self.assertEqual(Product(5, 0, [((0,), (0,), 0), ((1,), (0,), 0)]).legs, 2)
        self.assertEqual(Product(5, 0, []).legs, 0)
        self.assertEqual(Product(5, 4, []).legs, 0)
        long = [((k,), (0,), 1) for k in range(61)]
        self.assertEqual(Product(5, 1, long[:60]).legs, 60)
        self.refuses(BadProduct, "bunches", Product, 5, 1, long)
        self.assertEqual(Product(5, 1, [(tuple(range(60)), (0,) * 60, 1)]).legs, 60)
        self.refuses(BadProduct, "bunches", Product, 5, 1, [(tuple(range(61)), (0,) * 61, 1)])

    def test_worths(self):
        chance = chance_of(650)
        for number in range(150):
            form = some_product(chance, (3, 5, 97)[number % 3], chance.randrange(7))
            table = plain_product_table(form)
            self.same([product_worth(form, bits) for bits in product((0, 1), repeat=form.legs)], table)
            self.assertEqual(product_rule(form), Rule(form.prime, table))
        for number in range(20):
            form = some_product(chance, 97, 60, 0)
            bits = [0] * 60
            for legs, own, share in form.bunches:
                turn = chance.randrange(2) if share else 0
                for leg, bit in zip(legs, own):
                    bits[leg] = bit ^ turn
            self.assertNotEqual(product_worth(form, tuple(bits)), 0)
            for leg in (0, 17, 59):
                self.assertEqual(product_worth(form, tuple(bits)), plain_product_worth(form, bits))
                bits[leg] ^= 1
        self.assertEqual(product_rule(Product(3, 2, [])), Rule(3, [2]))
        self.assertEqual(product_rule(some_product(chance, 5, 8)).legs, 8)
        self.refuses(TooMany, 8, product_rule, some_product(chance, 5, 9))

    def test_refused(self):
        form = Product(5, 3, BUNCHES)
        for thing in ODD_THINGS + [Rule(5, [1])]:
            self.refuses(BadProduct, None, product_worth, thing, None)
            self.refuses(BadProduct, None, product_rule, thing)
        for bits in (None, (), (0, 0, 1), (0,) * 5, [0, 0, 1, 0], (0, 0, 2, 0), (0, 0, True, 0), "0010"):
            self.refuses(BadBits, None, product_worth, form, bits)
