from helpers import ODD_THINGS, Case, brute_sum, chance_of, is_sphere

from gatehelpers import plain_rule, some_gate
from onebasis.errors import BadGate, TooMany
from onebasis.gates import Gate, gate_web, is_flat_gate
from onebasis.rules import Rule

SQUARE = Gate(7, [2] * 4, [((k, 1), ((k + 1) % 4, 0), k + 1) for k in range(4)], [])


class Gates(Case):
    def test_attributes(self):
        places, ties, outer = [2, 1], [((1, 0), (0, 1), 5)], [(0, 0)]
        gate = Gate(7, places, ties, outer)
        places.append(0)
        ties.append(0)
        outer.append(0)
        self.same((gate.prime, gate.places, gate.ties, gate.outer), (7, (2, 1), (((0, 1), (1, 0), 5),), ((0, 0),)))
        self.same([tie[:2] for tie in SQUARE.ties], sorted(tie[:2] for tie in SQUARE.ties))

    def test_equal(self):
        gate = Gate(7, [2], [], [(0, 0), (0, 1)])
        self.assertEqual(gate, Gate(7, (2,), (), ((0, 0), (0, 1))))
        self.assertNotEqual(gate, Gate(7, [2], [], [(0, 1), (0, 0)]))
        self.assertNotEqual(gate, Gate(5, [2], [], [(0, 0), (0, 1)]))
        self.assertNotEqual(Gate(7, [0], [], []), Gate(7, [], [], []))
        tied = Gate(7, [2], [((0, 1), (0, 0), 3)], [])
        self.assertEqual(tied, Gate(7, [2], [((0, 0), (0, 1), 3)], []))
        self.assertNotEqual(tied, Gate(7, [2], [((0, 0), (0, 1), 2)], []))
        self.assertNotEqual(Gate(7, [4], [((0, 0), (0, 1), 1), ((0, 2), (0, 3), 1)], []),
                            Gate(7, [4], [((0, 0), (0, 2), 1), ((0, 1), (0, 3), 1)], []))
        for thing in ODD_THINGS:
            self.assertFalse(gate == thing)

    def test_refused(self):
        for thing in ODD_THINGS + [2, 9, 99]:
            self.refuses(BadGate, "prime", Gate, thing, None, None, None)
        for thing in (None, 5, "", {}, [9], [-1], [True], [1.0], [0] * 241, [[1]]):
            self.refuses(BadGate, "places", Gate, 7, thing, None, None)
        tie = ((0, 0), (0, 1), 1)
        for thing in (None, 5, [tie, tie], [tie[:2]], [list(tie)], [((0, 0), (0, 0), 1)], [((0, 0), (0, 2), 1)],
                      [((0, 0), (1, 0), 1)], [((0, 0), (0, 1), 7)], [((0, 0), (0, 1), -1)], [((0, 0), (0, 1), True)],
                      [((0, 0), (0, True), 1)], [([0, 0], (0, 1), 1)], [((0, 0), (0, 1), 1, 1)], [None],
                      [((0, 0), (0, 1), None)]):
            self.refuses(BadGate, "ties", Gate, 7, [2], thing, None)
        for thing in (None, [], [(0, 0)], [(0, 0), (0, 0)], [(0, 0), (0, 2)], [[0, 0], [0, 1]], [(0, 0), (0, True)]):
            self.refuses(BadGate, "outer", Gate, 7, [2], [], thing)
        self.refuses(BadGate, "outer", Gate, 7, [2], [tie], [(0, 0)])
        self.refuses(BadGate, "outer", Gate, 7, [8, 1], [], [(0, k) for k in range(8)] + [(1, 0)])

    def test_limits(self):
        legs = [(p, k) for p in range(240) for k in range(4)]
        ties = [(legs[2 * k], legs[2 * k + 1], 1) for k in range(400)]
        gate = Gate(97, [4] * 200 + [0] * 40, ties, [])
        self.assertEqual((len(gate.places), len(gate.ties)), (240, 400))
        self.assertTrue(is_flat_gate(gate))
        self.refuses(BadGate, "ties", Gate, 97, [4] * 201, ties + [(legs[800], legs[801], 1)], legs[802:804])
        self.refuses(TooMany, 60, gate_web, gate)
        self.refuses(TooMany, 200, gate_web, Gate(97, [8] * 51, [((t // 4, 2 * (t % 4)), (t // 4, 2 * (t % 4) + 1), 1)
                                                                for t in range(204)], []))
        self.assertEqual(len(gate_web(Gate(97, [8] * 50 + [0] * 10, [
            ((t // 4, 2 * (t % 4)), (t // 4, 2 * (t % 4) + 1), 1) for t in range(200)], [])).ties), 200)

    def test_gate_web(self):
        gate = Gate(7, [3, 1, 0], [((1, 0), (0, 1), 5)], [(0, 2), (0, 0)])
        web = gate_web(gate)
        self.assertEqual(web.rules, (Rule(7, [0, 1, 5, 0, 1, 0, 0, 0]), Rule(7, [0, 1]), Rule(7, [0])))
        self.same((web.ties, web.outer, web.prime), ((((0, 1), (1, 0)),), ((0, 2), (0, 0)), 7))
        self.assertEqual(brute_sum(gate_web(SQUARE)), [4])
        self.assertEqual(brute_sum(gate_web(Gate(7, [], [], []))), [1])

    def test_sum_of_gate_web_is_the_rule(self):
        chance = chance_of(30)
        for _ in range(40):
            gate = some_gate(chance, 7, chance.randrange(6), 6)
            self.assertEqual(brute_sum(gate_web(gate)), list(plain_rule(gate).table))

    def test_is_flat_gate(self):
        chance = chance_of(31)
        self.assertIs(is_flat_gate(SQUARE), True)
        crossed = Gate(7, [4], [((0, 0), (0, 2), 1), ((0, 1), (0, 3), 1)], [])
        self.assertIs(is_flat_gate(crossed), False)
        self.assertIs(is_flat_gate(Gate(7, [4], [], [(0, 0), (0, 2), (0, 1), (0, 3)])), False)
        found = set()
        for _ in range(60):
            gate = some_gate(chance, 7, 4, 5)
            if not gate.outer:
                rings = [[None] * many for many in gate.places]
                for number, tie in enumerate(gate.ties):
                    for side in (0, 1):
                        rings[tie[side][0]][tie[side][1]] = (number, side)
                self.assertEqual(is_flat_gate(gate), is_sphere(rings))
                found.add(is_flat_gate(gate))
        self.assertEqual(found, {True, False})
        for thing in ODD_THINGS:
            self.refuses(BadGate, None, is_flat_gate, thing)
            self.refuses(BadGate, None, gate_web, thing)
