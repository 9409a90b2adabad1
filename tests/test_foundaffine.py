from itertools import product

from classhelpers import some_affine
from helpers import ODD_THINGS, Case, chance_of, some_rule

from onebasis.affine import Affine, affine_rule
from onebasis.affinepapers import is_against_affine, not_affine
from onebasis.errors import BadRule
from onebasis.foundaffine import affine_form
from onebasis.rules import Rule


def all_affines(prime, legs):
    """The tables of all affine forms with so many legs, a dict to the list of the forms."""
    order = 4 if prime % 4 == 1 else 2
    found = {}
    vectors = [bits for bits in product((0, 1), repeat=legs) if any(bits)]
    lots = [[]]
    for vector in sorted(vectors, reverse=True):
        lots += [lot + [vector] for lot in lots]
    forms = [Affine(prime, legs, 0, (0,) * legs, [], [], [])]
    for lot in lots:
        leads = [way.index(1) for way in lot]
        if leads != sorted(set(leads)) or any(way[lead] for way in lot for lead in leads if way.index(1) != lead):
            continue
        every = [(j, k) for j in range(len(lot)) for k in range(j + 1, len(lot))]
        for number in range(1, prime):
            for start in product((0, 1), repeat=legs):
                if any(start[lead] for lead in leads):
                    continue
                for powers in product(range(order), repeat=len(lot)):
                    for taken in product((0, 1), repeat=len(every)):
                        pairs = [pair for pair, take in zip(every, taken) if take]
                        forms.append(Affine(prime, legs, number, start, lot, powers, pairs))
    for form in forms:
        found.setdefault(affine_rule(form).table, []).append(form)
    return found


class FoundAffine(Case):
    def test_all_tables(self):
        for prime, legs in ((3, 0), (3, 1), (3, 2), (3, 3), (5, 0), (5, 1), (5, 2), (7, 0), (7, 1), (13, 1)):
            forms = all_affines(prime, legs)
            for table in product(range(prime), repeat=1 << legs):
                rule = Rule(prime, table)
                told = affine_form(rule)
                paper = not_affine(rule)
                if table in forms:
                    self.assertEqual([told], forms[table])
                    self.assertIsNone(paper)
                else:
                    self.assertIsNone(told)
                    self.assertIs(is_against_affine(rule, paper), True)

    def test_there_and_back(self):
        chance = chance_of(610)
        for number in range(200):
            prime = (3, 5, 7, 13, 97)[number % 5]
            form = some_affine(chance, prime, chance.randrange(9))
            self.assertEqual(affine_form(affine_rule(form)), form)
            self.assertIsNone(not_affine(affine_rule(form)))

    def test_many_legs_not_affine(self):
        chance = chance_of(611)
        met = {}
        for number in range(150):
            prime = (3, 5, 7, 13)[number % 4]
            form = some_affine(chance, prime, chance.randrange(2, 8), 0)
            table = list(affine_rule(form).table)
            at = chance.randrange(len(table))
            table[at] = chance.randrange(prime) if number % 3 else -table[at] % prime
            rule = Rule(prime, table)
            told = affine_form(rule)
            paper = not_affine(rule)
            self.assertEqual(told is None, paper is not None)
            if told is None:
                self.assertTrue(is_against_affine(rule, paper))
                met[paper[0]] = met.get(paper[0], 0) + 1
            else:
                self.assertEqual(affine_rule(told), rule)
        for _ in range(50):
            rule = some_rule(chance, 97, 3)
            self.assertTrue(is_against_affine(rule, not_affine(rule)))
        self.assertEqual(sorted(met), ["phase", "share", "space"])
        self.assertGreater(min(met.values()), 5)

    def test_examples(self):
        self.assertEqual(affine_form(Rule(5, [1, 2])), Affine(5, 1, 1, (0,), [(1,)], [1], []))
        told = affine_form(Rule(5, [1, 1, 1, 4]))
        self.assertEqual(told, Affine(5, 2, 1, (0, 0), [(1, 0), (0, 1)], [0, 0], [(0, 1)]))
        self.assertIsNone(affine_form(Rule(5, [1, 1, 1, 2])))
        self.assertEqual(affine_form(Rule(3, [0])), Affine(3, 0, 0, (), [], [], []))
        self.assertEqual(affine_form(Rule(3, [0] * 256)), Affine(3, 8, 0, (0,) * 8, [], [], []))

    def test_refused(self):
        for thing in ODD_THINGS:
            self.refuses(BadRule, None, affine_form, thing)
