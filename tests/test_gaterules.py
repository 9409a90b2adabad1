from itertools import product

from gatehelpers import grid_gate, grid_worth, plain_rule, some_flat_gate, some_gate
from helpers import ODD_THINGS, Case, chance_of

from onebasis.errors import BadGate, NotFlat, TooMany
from onebasis.gaterules import flat_rule, pairing_rule
from onebasis.gates import Gate, is_flat_gate
from onebasis.identities import keeps_identities
from onebasis.rules import Rule

SQUARE = Gate(7, [2] * 4, [((k, 1), ((k + 1) % 4, 0), k + 1) for k in range(4)], [])


class GateRules(Case):
    def test_by_hand(self):
        self.assertEqual(pairing_rule(SQUARE), Rule(7, [4]))
        self.assertEqual(flat_rule(SQUARE), Rule(7, [4]))
        for call in (pairing_rule, flat_rule):
            self.assertEqual(call(Gate(7, [], [], [])), Rule(7, [1]))
            self.assertEqual(call(Gate(7, [0], [], [])), Rule(7, [0]))
            self.assertEqual(call(Gate(7, [1], [], [(0, 0)])), Rule(7, [0, 1]))
            self.assertEqual(call(Gate(7, [2], [((0, 0), (0, 1), 5)], [])), Rule(7, [0]))
            self.assertEqual(call(Gate(7, [2], [], [(0, 1), (0, 0)])), Rule(7, [0, 1, 1, 0]))
            self.assertEqual(call(Gate(7, [1, 1], [((0, 0), (1, 0), 0)], [])), Rule(7, [0]))
            two = Gate(7, [2, 2], [((0, 0), (1, 1), 5)], [(0, 1), (1, 0)])
            self.assertEqual(call(two), Rule(7, [5, 0, 0, 1]))

    def test_pairing_rule(self):
        chance = chance_of(310)
        for _ in range(60):
            gate = some_gate(chance, chance.choice((3, 97)), chance.randrange(6), 6)
            self.assertEqual(pairing_rule(gate), plain_rule(gate))

    def test_flat_rule(self):
        chance = chance_of(311)
        heavy = 0
        for number in range(150):
            gate = some_flat_gate(chance, chance.choice((3, 7)), chance.randrange(1, 7), 9, (0, 2, 4)[number % 3])
            self.assertTrue(is_flat_gate(gate))
            wanted = plain_rule(gate)
            heavy += any(wanted.table)
            self.assertEqual(pairing_rule(gate), wanted)
            self.assertEqual(flat_rule(gate), wanted)
            self.assertTrue(keeps_identities(wanted))
        self.assertGreater(heavy, 30)

    def test_flat_rule_of_unlike_pieces(self):
        # The outer legs of one piece stand between those of another one.
        ties = [((0, 1), (1, 0), 2), ((2, 1), (3, 0), 3)]
        gate = Gate(7, [2, 2, 2, 2, 1, 1], ties + [((4, 0), (5, 0), 4)], [(0, 0), (2, 0), (3, 1), (1, 1)])
        self.assertEqual(flat_rule(gate), plain_rule(gate))
        self.assertEqual(flat_rule(gate).table[0], 24 % 7)

    def test_grids(self):
        chance = chance_of(312)
        for rows, columns, many in ((2, 2, 0), (3, 4, 2), (6, 6, 6), (6, 8, 8), (7, 8, 8)):
            gate, weights = grid_gate(chance, 97, rows, columns, many)
            told = flat_rule(gate)
            wanted = [grid_worth(weights, rows, columns, bits, 97) for bits in product((0, 1), repeat=many)]
            self.assertEqual(list(told.table), wanted)
            self.assertTrue(any(wanted))
            self.assertTrue(keeps_identities(told))

    def test_largest_grid(self):
        chance = chance_of(313)
        gate, weights = grid_gate(chance, 5, 24, 8, 8)
        self.assertEqual((len(gate.places), len(gate.ties)), (192, 352))
        told = flat_rule(gate)
        wanted = [grid_worth(weights, 24, 8, bits, 5) for bits in product((0, 1), repeat=8)]
        self.assertEqual(list(told.table), wanted)
        long = Gate(3, [2] * 238 + [1, 1], [((k, 1), (k + 1, 0), 2) for k in range(237)] + [
            ((0, 0), (238, 0), 2), ((237, 1), (239, 0), 2)], [])
        self.assertEqual(flat_rule(long), Rule(3, [2 ** 120 % 3]))

    def test_refused(self):
        for thing in ODD_THINGS:
            self.refuses(BadGate, None, pairing_rule, thing)
            self.refuses(BadGate, None, flat_rule, thing)
        self.assertEqual(pairing_rule(Gate(7, [1] * 12, [((2 * k, 0), (2 * k + 1, 0), 2) for k in range(6)], [])),
                         Rule(7, [1]))
        self.refuses(TooMany, 12, pairing_rule, Gate(7, [0] * 13, [], []))
        crossed = Gate(7, [4], [((0, 0), (0, 2), 1), ((0, 1), (0, 3), 1)], [])
        self.refuses(NotFlat, None, flat_rule, crossed)
        self.refuses(NotFlat, None, flat_rule, Gate(7, [4], [], [(0, 0), (0, 2), (0, 1), (0, 3)]))
