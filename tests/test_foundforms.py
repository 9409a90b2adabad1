from itertools import product

from formhelpers import every_identity, plain_identity, plain_rule_of, plain_worth, some_form
from helpers import ODD_THINGS, Case, chance_of, some_rule

from onebasis.errors import BadRule
from onebasis.forms import Form
from onebasis.foundforms import form_of, has_form
from onebasis.rules import Rule


class FoundForms(Case):
    def told_well(self, rule, form):
        """The form has the worths of the rule, and is normal."""
        tuples = list(product((0, 1), repeat=rule.legs))
        self.assertEqual([plain_worth(form, bits) for bits in tuples], list(rule.table))
        heavy = [bits for bits in tuples if plain_worth(form, bits)]
        if heavy:
            self.assertEqual(form.flips, tuple(k for k, bit in enumerate(min(heavy)) if bit))
        else:
            self.assertEqual(form, Form(rule.prime, 0, (), [[0] * rule.legs] * rule.legs))

    def test_by_hand(self):
        table = [0] * 16
        table[0], table[12], table[3], table[15] = 1, 2, 3, 6
        wanted = Form(7, 1, (), [[0, 2, 0, 0], [5, 0, 0, 0], [0, 0, 0, 3], [0, 0, 4, 0]])
        self.assertEqual(form_of(Rule(7, table)), wanted)
        table[15] = 5
        self.assertIsNone(form_of(Rule(7, table)))
        self.assertIs(has_form(Rule(7, table)), False)
        self.assertEqual(form_of(Rule(7, [0])), Form(7, 0, (), []))
        self.assertEqual(form_of(Rule(7, [5])), Form(7, 5, (), []))
        self.assertEqual(form_of(Rule(7, [0, 5])), Form(7, 5, (0,), [[0]]))
        self.assertEqual(form_of(Rule(7, [0] * 256)), Form(7, 0, (), [[0] * 8] * 8))

    def test_worths_of_forms(self):
        chance = chance_of(220)
        for prime in (3, 7, 97):
            for legs in range(7):
                for zeros in (0, 4, 6):
                    rule = plain_rule_of(some_form(chance, prime, legs, zeros))
                    form = form_of(rule)
                    self.told_well(rule, form)
                    self.assertIs(has_form(rule), True)
        rule = plain_rule_of(some_form(chance, 5, 8))
        self.told_well(rule, form_of(rule))

    def test_forms_exactly_if_identities(self):
        chance = chance_of(221)
        found = []
        rules = [Rule(3, table) for table in product(range(3), repeat=4)]
        rules += [some_rule(chance, 3, 3) for _ in range(60)]
        rules += [Rule(3, [x if k in (0, 3, 5, 6) else 0 for k, x in enumerate(some_rule(chance, 3, 3).table)])
                  for _ in range(60)]
        for _ in range(120):
            even = [0, 3, 5, 6, 9, 10, 12, 15]
            rules.append(Rule(3, [chance.randrange(3) if k in even else 0 for k in range(16)]))
        for rule in rules:
            kept = all(plain_identity(rule, bits, legs) == 0 for bits, legs in every_identity(rule.legs))
            found.append(kept)
            self.assertIs(has_form(rule), kept)
            if kept:
                self.told_well(rule, form_of(rule))
            else:
                self.assertIsNone(form_of(rule))
        self.assertGreater(min(found.count(True), found.count(False)), 40)

    def test_refused(self):
        for thing in ODD_THINGS:
            self.refuses(BadRule, None, form_of, thing)
            self.refuses(BadRule, None, has_form, thing)
