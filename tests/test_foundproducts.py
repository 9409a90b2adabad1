from itertools import product

from classhelpers import some_product
from helpers import ODD_THINGS, Case, at, chance_of, some_rule

from onebasis.errors import BadRule
from onebasis.foundproducts import is_against_product, not_product, product_form
from onebasis.products import Product, product_rule
from onebasis.rules import Rule


def partitions(things):
    """All ways to part a list into lots."""
    if not things:
        return [[]]
    found = []
    for rest in partitions(things[1:]):
        found.append([[things[0]]] + rest)
        found += [rest[:k] + [[things[0]] + lot] + rest[k + 1:] for k, lot in enumerate(rest)]
    return found


def all_products(prime, legs):
    """The tables of all product forms with so many legs, a dict to the list of the forms."""
    forms = [Product(prime, 0, [((leg,), (0,), 0) for leg in range(legs)])]
    for lots in partitions(list(range(legs))):
        choices = []
        for lot in lots:
            here = [(tuple(lot), (0,) + bits, share) for bits in product((0, 1), repeat=len(lot) - 1)
                    for share in range(1, prime)]
            if len(lot) == 1:
                here += [(tuple(lot), (bit,), 0) for bit in (0, 1)]
            choices.append(here)
        for bunches in product(*choices):
            forms += [Product(prime, number, sorted(bunches)) for number in range(1, prime)]
    found = {}
    for form in forms:
        found.setdefault(product_rule(form).table, []).append(form)
    return found


def plain_bunches(rule):
    """The ascending tuples of legs that are together, by the words of point 65."""
    space = [bits for bits in product((0, 1), repeat=rule.legs) if at(rule, bits)]
    both = [leg for leg in range(rule.legs) if len({bits[leg] for bits in space}) == 2]
    lots = {}
    for leg in both:
        lots[leg] = tuple(k for k in both if len({bits[k] ^ bits[leg] for bits in space}) == 1)
    return sorted(set(lots.values()))


def is_paper(rule, legs, a, b):
    if legs not in plain_bunches(rule) or not at(rule, a) or not at(rule, b):
        return False
    first = tuple(b[k] if k in legs else a[k] for k in range(rule.legs))
    second = tuple(a[k] if k in legs else b[k] for k in range(rule.legs))
    return (at(rule, a) * at(rule, b) - at(rule, first) * at(rule, second)) % rule.prime != 0


class FoundProducts(Case):
    def test_all_tables(self):
        for prime, legs in ((3, 0), (3, 1), (3, 2), (3, 3), (5, 0), (5, 1), (5, 2), (7, 1)):
            forms = all_products(prime, legs)
            for table in product(range(prime), repeat=1 << legs):
                rule = Rule(prime, table)
                told = product_form(rule)
                paper = not_product(rule)
                if table in forms:
                    self.assertEqual([told], forms[table])
                    self.assertIsNone(paper)
                else:
                    self.assertIsNone(told)
                    self.assertTrue(is_paper(rule, *paper))
                    self.assertIs(is_against_product(rule, paper), True)

    def test_many_legs(self):
        chance = chance_of(660)
        found = {True: 0, False: 0}
        for number in range(200):
            form = some_product(chance, (3, 5, 97)[number % 3], chance.randrange(9))
            rule = product_rule(form)
            self.assertEqual(product_form(rule), form)
            self.assertIsNone(not_product(rule))
            table = list(rule.table)
            table[chance.randrange(len(table))] = chance.randrange(form.prime)
            rule = Rule(form.prime, table)
            told, paper = product_form(rule), not_product(rule)
            self.assertEqual(told is None, paper is not None)
            if paper is None:
                self.assertEqual(product_rule(told), rule)
            else:
                self.assertTrue(is_paper(rule, *paper))
                self.assertIs(is_against_product(rule, paper), True)
            found[paper is None] += 1
        self.assertGreater(min(found.values()), 20)

    def test_each_paper(self):
        chance = chance_of(661)
        found = {True: 0, False: 0}
        for number in range(60):
            prime, legs = (3, 5)[number % 2], chance.randrange(4)
            rule = some_rule(chance, prime, legs)
            if number % 3:
                rule = Rule(prime, [x * chance.randrange(2) for x in rule.table])
            every = list(product((0, 1), repeat=legs))
            good = 0
            for lot in product((0, 1), repeat=legs):
                some = tuple(k for k in range(legs) if lot[k])
                for a, b in product(every, repeat=2):
                    wanted = is_paper(rule, some, a, b)
                    self.assertIs(is_against_product(rule, (some, a, b)), wanted)
                    found[wanted] += 1
                    good += wanted
            self.assertEqual(good == 0, not_product(rule) is None)
        self.assertGreater(min(found.values()), 200)

    def test_bent_papers_and_any_kind(self):
        rule = Rule(5, [1, 2, 3, 4])
        paper = ((0,), (0, 0), (1, 1))
        self.assertIs(is_against_product(rule, paper), True)
        self.same(not_product(rule), tuple(tuple(list(part)) for part in not_product(rule)))
        for thing in ODD_THINGS + [
                list(paper), paper[:2], paper + ((0, 0),), ([0],) + paper[1:], ((0,), [0, 0], (1, 1)), ((0,), (0, 0), [1, 1]),
                ((0, 1), (0, 0), (1, 1)), ((), (0, 0), (1, 1)), ((0, 0), (0, 0), (1, 1)), ((2,), (0, 0), (1, 1)),
                ((-1,), (0, 0), (1, 1)), ((False,), (0, 0), (1, 1)), ((0.0,), (0, 0), (1, 1)), ((0,), (0, False), (1, 1)),
                ((0,), (0,), (1, 1)), ((0,), (0, 0, 0), (1, 1)), ((0,), None, (1, 1)), (None, (0, 0), (1, 1)),
                ((0,), (0, 0), (1, 2)), ((None,), (0, 0), (1, 1)), (0, (0, 0), (1, 1)), ((0,), (0, 0), (0, 1)), ("0", (0, 0), (1, 1))]:
            self.assertIs(is_against_product(rule, thing), False, thing)

    def test_examples(self):
        self.assertEqual(product_form(Rule(5, [0, 1, 3, 0])), Product(5, 1, [((0, 1), (0, 1), 3)]))
        self.assertEqual(product_form(Rule(3, [0] * 4)), Product(3, 0, [((0,), (0,), 0), ((1,), (0,), 0)]))
        self.assertEqual(product_form(Rule(3, [0])), Product(3, 0, []))
        self.assertEqual(product_form(Rule(7, [0, 0, 0, 3])), Product(7, 3, [((0,), (1,), 0), ((1,), (1,), 0)]))

    def test_refused(self):
        for thing in ODD_THINGS:
            self.refuses(BadRule, None, product_form, thing)
            self.refuses(BadRule, None, not_product, thing)
            self.refuses(BadRule, None, is_against_product, thing, None)
