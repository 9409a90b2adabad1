from classhelpers import some_affine_rule, some_product_rule
from formhelpers import some_formed_rule
from helpers import ODD_THINGS, Case, brute_sum, chance_of, grid_web, some_rule, some_web, swept_sum
from test_affinesums import some_wide_rule
from test_foundaffine import all_affines
from test_foundproducts import all_products
from test_productsums import some_wide_product
from test_shorts import some_short

from onebasis.classcounts import affine_many
from onebasis.classes import class_sum, classes
from onebasis.errors import BadRule, BadWeb, NoClass
from onebasis.foundaffine import affine_form
from onebasis.foundforms import has_form
from onebasis.foundproducts import product_form
from onebasis.rules import Rule, ones
from onebasis.shorts import bunches_of
from onebasis.webs import Web, pieces

WORDS = ["affine", "form", "product", "short"]


def is_of(word, rule):
    if word == "affine":
        return affine_form(rule) is not None
    if word == "form":
        return has_form(rule)
    if word == "product":
        return product_form(rule) is not None
    return all(len(bunch) < 3 for bunch in bunches_of(rule))


def two_webs(chance, one, other, mixed=True):
    """The web of both beside one another, places mixed if wanted, outer legs mixed."""
    rules = list(one.rules) + list(other.rules)
    order = list(range(len(rules)))
    if mixed:
        chance.shuffle(order)
    first = {place: order.index(place) for place in range(len(rules))}
    many = len(one.rules)

    def led(leg, more):
        return (first[leg[0] + more], leg[1])

    ties = [(led(a, 0), led(b, 0)) for a, b in one.ties] + [(led(a, many), led(b, many)) for a, b in other.ties]
    outer = [led(leg, 0) for leg in one.outer] + [led(leg, many) for leg in other.outer]
    chance.shuffle(outer)
    return Web(one.prime, [rules[place] for place in order], ties, outer)


class Classes(Case):
    def test_words(self):
        chance = chance_of(680)
        met = {word: 0 for word in WORDS}
        for number in range(200):
            prime = (3, 5, 97)[number % 3]
            make = (some_affine_rule, some_formed_rule, some_product_rule, some_short, some_rule)[number % 5]
            rules = [make(chance, prime, chance.randrange(4)) for _ in range(chance.randrange(4))]
            wanted = [word for word in WORDS if all(is_of(word, rule) for rule in rules)]
            self.same(classes(rules), wanted)
            self.same(classes(tuple(rules)), wanted)
            if len(wanted) < 4:
                for word in wanted:
                    met[word] += 1
        self.assertGreater(min(met.values()), 5)
        self.same(classes([]), WORDS)
        self.same(classes([Rule(3, [1])] * 60), WORDS)
        self.same(classes([Rule(3, [1])] * 59 + [Rule(3, [1, 1, 1, 1, 1, 1, 1, 2] * 2)]), [])
        self.assertEqual(len(all_affines(3, 2)), affine_many(3, 2))
        self.assertTrue(all(classes([Rule(3, table)]) == [] or "product" in classes([Rule(3, table)])
                            for table in all_products(3, 3)))

    def test_sums_of_several_pieces(self):
        chance = chance_of(681)
        makers = [some_affine_rule, some_product_rule, some_short, some_wide_rule, some_wide_product]
        met = {"whole": 0, "outer": 0, "several": 0}
        for number in range(150):
            prime = (3, 5, 97)[number % 3]
            webs = []
            for _ in range(2):
                web = some_web(chance, prime, chance.randrange(1, 4), chance.randrange(5), 2)
                make = chance.choice(makers)
                webs.append(Web(prime, [make(chance, prime, rule.legs) for rule in web.rules], web.ties, web.outer))
            web = two_webs(chance, *webs)
            wanted = Rule(prime, brute_sum(web))
            self.assertEqual(class_sum(web), wanted)
            met["whole"] += any(wanted.table)
            met["outer"] += any(wanted.table) and len(web.outer) > 2
            met["several"] += any(wanted.table) and len(pieces(web)) > 2
        self.assertGreater(min(met.values()), 20)

    def test_long_webs(self):
        chance = chance_of(682)
        for prime in (5, 97):
            webs = [grid_web(chance, prime, 3, 6, 2, make) for make in (some_wide_rule, some_wide_product, some_short)]
            both = two_webs(chance, webs[0], webs[1], False)
            self.assertEqual(list(class_sum(both).table), swept_sum(both))
            whole = two_webs(chance, both, webs[2], False)
            self.assertEqual(list(class_sum(whole).table), swept_sum(whole))
            self.assertEqual(class_sum(Web(prime, [], [], [])), Rule(prime, [1]))

    def test_no_class(self):
        chance = chance_of(683)
        odd = ones(7, 3, [1, 2, 4, 4])
        self.assertEqual(classes([odd]), [])
        # A rule of each class in one piece, without a class of them all.
        affine, short = Rule(7, [1, 1, 1, 6, 1, 6, 6, 6]), some_short(chance, 7, 3)
        self.assertEqual(classes([affine]), ["affine"])
        self.assertNotIn("affine", classes([short]))
        mixed = Web(7, [affine, short], [((0, k), (1, k)) for k in range(3)], [])
        self.refuses(NoClass, 0, class_sum, mixed)
        alone = Web(7, [affine, short], [], [(p, k) for p in range(2) for k in range(3)])
        self.assertEqual(list(class_sum(alone).table), brute_sum(alone))
        # The first of pieces in the sequence of their least places, told by its least place.
        rules = [short, affine, odd, short]
        ties = [((0, k), (3, k)) for k in range(3)] + [((1, 0), (2, 0))]
        web = Web(7, rules, ties, [(1, 1), (1, 2), (2, 1), (2, 2)])
        self.refuses(NoClass, 1, class_sum, web)
        web = Web(7, [Rule(7, [1]), odd, odd], [], [(p, k) for p in (1, 2) for k in range(3)])
        self.refuses(NoClass, 1, class_sum, web)
        formed = ones(7, 3, [0, 1, 0, 3])
        self.assertTrue(has_form(formed))
        self.refuses(NoClass, 0, class_sum, Web(7, [formed], [], [(0, 0), (0, 1), (0, 2)]))

    def test_refused(self):
        rule = Rule(3, [1])
        for thing in (None, 5, "rules", {}, {0: rule}, [None], [rule, None], [rule, Rule(5, [1])], [rule] * 61, rule,
                      [[rule]], [1]):
            self.refuses(BadRule, "rules", classes, thing)
        for thing in ODD_THINGS:
            self.refuses(BadWeb, None, class_sum, thing)
