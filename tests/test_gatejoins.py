from gatehelpers import plain_rule, some_flat_gate, some_gate
from helpers import ODD_THINGS, Case, at, chance_of, table_of

from onebasis.errors import BadGate, BadNumber, TooMany
from onebasis.gatejoins import gate_beside, gate_flipped, gate_tied, gate_turned
from onebasis.gates import Gate, is_flat_gate
from onebasis.rules import Rule, beside, flipped, turned

PAIR = Gate(7, [2, 2], [((0, 0), (1, 1), 5)], [(0, 1), (1, 0)])


def tied_rule(rule, leg, number):
    return Rule(rule.prime, [x % rule.prime for x in table_of(rule.legs - 2, lambda bits: at(
        rule, bits[:leg] + (0, 0) + bits[leg:]) + number * at(rule, bits[:leg] + (1, 1) + bits[leg:]))])


class GateJoins(Case):
    def gates(self, chance, many):
        return [some_gate(chance, 7, 4, 4) if k % 2 else some_flat_gate(chance, 7, 4, 6) for k in range(many)]

    def test_by_hand(self):
        self.assertEqual(gate_beside(PAIR, Gate(7, [1], [], [(0, 0)])), Gate(
            7, [2, 2, 1], [((0, 0), (1, 1), 5)], [(0, 1), (1, 0), (2, 0)]))
        both = gate_beside(PAIR, PAIR)
        self.same((both.places, both.ties, both.outer), ((2, 2, 2, 2), (((0, 0), (1, 1), 5), ((2, 0), (3, 1), 5)),
                                                        ((0, 1), (1, 0), (2, 1), (3, 0))))
        self.same(gate_turned(PAIR, 1).outer, ((1, 0), (0, 1)))
        self.same(gate_turned(Gate(7, [3], [], [(0, 0), (0, 1), (0, 2)]), 4).outer, ((0, 1), (0, 2), (0, 0)))
        self.assertEqual(gate_turned(Gate(7, [0], [], []), 8), Gate(7, [0], [], []))
        self.assertEqual(gate_flipped(PAIR, 1), Gate(
            7, [2, 2, 2], [((0, 0), (1, 1), 5), ((1, 0), (2, 0), 1)], [(0, 1), (2, 1)]))
        self.assertEqual(gate_tied(PAIR, 0, 3), Gate(7, [2, 2], [((0, 0), (1, 1), 5), ((0, 1), (1, 0), 3)], []))

    def test_rules(self):
        chance = chance_of(330)
        for gate in self.gates(chance, 40):
            rule, flat = plain_rule(gate), is_flat_gate(gate)
            for many in (0, 1, 8):
                told = gate_turned(gate, many)
                self.assertEqual(plain_rule(told), turned(rule, many))
                self.assertTrue(is_flat_gate(told) or not flat)
            for leg in range(len(gate.outer)):
                told = gate_flipped(gate, leg)
                self.assertEqual(plain_rule(told), flipped(rule, leg))
                self.assertTrue(is_flat_gate(told) or not flat)
            for leg in range(len(gate.outer) - 1):
                number = chance.randrange(7)
                told = gate_tied(gate, leg, number)
                self.assertEqual(plain_rule(told), tied_rule(rule, leg, number))
                self.assertTrue(is_flat_gate(told) or not flat)

    def test_beside(self):
        chance = chance_of(331)
        for gate, other in zip(self.gates(chance, 12), self.gates(chance, 12)[::-1]):
            if len(gate.outer) + len(other.outer) <= 8:
                told = gate_beside(gate, other)
                self.assertEqual(plain_rule(told), beside(plain_rule(gate), plain_rule(other)))
                if is_flat_gate(gate) and is_flat_gate(other):
                    self.assertTrue(is_flat_gate(told))

    def test_refused(self):
        for thing in ODD_THINGS:
            self.refuses(BadGate, None, gate_beside, PAIR, thing)
            self.refuses(BadGate, None, gate_beside, thing, PAIR)
            self.refuses(BadGate, None, gate_turned, thing, None)
            self.refuses(BadGate, None, gate_flipped, thing, None)
            self.refuses(BadGate, None, gate_tied, thing, None, None)
        self.refuses(BadGate, "other", gate_beside, PAIR, Gate(5, [], [], []))
        for thing in (-1, 9, None, True, "1"):
            self.refuses(BadNumber, "many", gate_turned, PAIR, thing)
        for thing in (-1, 2, None, True):
            self.refuses(BadNumber, "leg", gate_flipped, PAIR, thing)
        for thing in (-1, 1, None, False):
            self.refuses(BadNumber, "leg", gate_tied, PAIR, thing, None)
        for thing in (-1, 7, None, True):
            self.refuses(BadNumber, "number", gate_tied, PAIR, 0, thing)
        self.refuses(BadNumber, "leg", gate_flipped, Gate(7, [], [], []), 0)

    def test_limits(self):
        five = Gate(3, [5], [], [(0, k) for k in range(5)])
        many = Gate(3, [2] + [0] * 239, [], [(0, 0), (0, 1)])
        ties = [((t // 4, 2 * (t % 4)), (t // 4, 2 * (t % 4) + 1), 1) for t in range(400)]
        full = Gate(3, [8] * 100 + [2], ties, [(100, 0), (100, 1)])
        self.refuses(TooMany, 8, gate_beside, gate_beside(Gate(3, [0] * 239, [], []), five), five)
        three = Gate(3, [3], [], [(0, k) for k in range(3)])
        self.assertEqual(len(gate_beside(five, three).outer), 8)
        self.refuses(TooMany, 240, gate_beside, many, full)
        self.refuses(TooMany, 400, gate_beside, full, Gate(3, [2], [((0, 0), (0, 1), 1)], []))
        self.assertEqual(len(gate_beside(full, Gate(3, [0] * 139, [], [])).places), 240)
        self.refuses(TooMany, 240, gate_flipped, many, 0)
        self.refuses(TooMany, 400, gate_flipped, full, 1)
        self.refuses(TooMany, 400, gate_tied, full, 0, 1)
        both = gate_beside(full, Gate(3, [0] * 139, [], []))
        self.refuses(TooMany, 240, gate_flipped, both, 0)
        self.assertEqual(len(gate_tied(many, 0, 1).ties), 1)
        less = Gate(3, [8] * 99 + [6, 2] + [0] * 138, ties[:399], [(100, 0), (100, 1)])
        self.assertEqual(len(gate_tied(less, 0, 1).ties), 400)
        told = gate_flipped(less, 0)
        self.assertEqual((len(told.places), len(told.ties)), (240, 400))
