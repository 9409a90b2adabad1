from formhelpers import plain_identity, plain_rule_of, some_form, some_formed_rule
from helpers import ODD_THINGS, Case, chance_of, some_rule

from onebasis.errors import BadRule
from onebasis.gatemaking import gate_or_bar
from onebasis.gaterules import flat_rule, pairing_rule
from onebasis.gates import Gate, is_flat_gate
from onebasis.rules import Rule


class GateMaking(Case):
    def made_well(self, rule):
        told = gate_or_bar(rule)
        self.assertEqual((type(told), len(told), told[0]), (tuple, 2, "gate"))
        gate = told[1]
        self.assertIsInstance(gate, Gate)
        self.assertTrue(is_flat_gate(gate))
        self.assertEqual((gate.prime, len(gate.outer)), (rule.prime, rule.legs))
        self.assertEqual(flat_rule(gate), rule)
        return gate

    def barred_well(self, rule):
        told = gate_or_bar(rule)
        self.assertEqual((type(told), len(told), told[0]), (tuple, 2, "bar"))
        bits, legs = told[1]
        self.assertEqual((type(told[1]), type(bits), type(legs), len(bits)), (tuple, tuple, tuple, rule.legs))
        self.assertTrue(legs and list(legs) == sorted(set(legs)) and set(legs) <= set(range(rule.legs)))
        self.assertTrue(set(bits) <= {0, 1})
        self.assertNotEqual(plain_identity(rule, bits, legs), 0)

    def test_gates(self):
        chance = chance_of(320)
        for prime in (3, 7, 97):
            for legs in range(9):
                for _ in range(3):
                    gate = self.made_well(some_formed_rule(chance, prime, legs) if legs < 7 else plain_rule_of(
                        some_form(chance, prime, legs, 4)))
                    if len(gate.places) <= 12:
                        self.assertEqual(pairing_rule(gate), flat_rule(gate))

    def test_edges(self):
        for rule in (Rule(7, [0]), Rule(7, [3]), Rule(7, [0, 3]), Rule(7, [3, 0]), Rule(7, [0, 0]), Rule(7, [0] * 256),
                     Rule(97, [0] * 255 + [5]), Rule(3, [1] + [0] * 255), Rule(3, [0, 1, 1, 0])):
            self.made_well(rule)

    def test_bars(self):
        chance = chance_of(321)
        for rule in (Rule(7, [1, 2]), Rule(7, [1, 1, 1, 1]), Rule(3, [1] * 256)):
            self.barred_well(rule)
        for legs in (3, 4, 5, 6):
            for _ in range(5):
                self.barred_well(some_rule(chance, 97, legs))
        table = [0] * 16
        table[0], table[12], table[3], table[15] = 1, 2, 3, 5
        self.barred_well(Rule(7, table))
        table[15] = 6
        self.made_well(Rule(7, table))

    def test_refused(self):
        for thing in ODD_THINGS:
            self.refuses(BadRule, None, gate_or_bar, thing)
