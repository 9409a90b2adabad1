from gatehelpers import plain_rule, some_flat_gate, some_gate
from helpers import ODD_THINGS, Case, chance_of

from onebasis.errors import BadGate, BadMove, BadNumber, NoSquare, TooMany
from onebasis.gatemoves import moved, moves_of, renewed, settled
from onebasis.gaterules import pairing_rule
from onebasis.gates import Gate, is_flat_gate
from onebasis.rules import scaled

SQUARE = Gate(7, [2] * 4, [((k, 1), ((k + 1) % 4, 0), k + 1) for k in range(4)], [])


def plain_moves(gate):
    """The moves, read off the document word by word."""
    ends = {}
    for k, (one, other, weight) in enumerate(gate.ties):
        ends[one], ends[other] = (other, k), (one, k)
    held = {place for place, _ in gate.outer}
    found = []
    for place, many in enumerate(gate.places):
        if many == 2 and place not in held:
            x, y = ends[place, 0][0][0], ends[place, 1][0][0]
            if len({place, x, y}) == 3 and not {x, y} & held and gate.places[x] + gate.places[y] <= 10:
                found.append(("contract", place))
        if many == 1 and place not in held and ends[place, 0][0][0] not in held:
            found.append(("force", place))
    for k, (one, other, weight) in enumerate(gate.ties):
        if weight == 0 or one[0] == other[0]:
            found.append(("drop", k))
        for j in range(k + 1, len(gate.ties)):
            later = gate.ties[j]
            if one[0] != other[0] and {one[0], other[0]} == {later[0][0], later[1][0]}:
                found.append(("merge", k, j))
    return sorted(found)


class GateMoves(Case):
    def some(self, chance):
        if chance.randrange(2):
            return some_flat_gate(chance, 7, chance.randrange(1, 6), 8, 1)
        return some_gate(chance, 7, chance.randrange(1, 6), 7)

    def test_example(self):
        self.same(moves_of(SQUARE), [("contract", k) for k in range(4)])
        number, gate = moved(SQUARE, ("contract", 0))
        # Place 2 is place 0 now; the new place has the leg of place 3 behind that to place 0, then that of place 1.
        self.assertEqual((number, gate), (1, Gate(7, [2, 2], [((0, 0), (1, 1), 1), ((0, 1), (1, 0), 3)], [])))
        self.same(moves_of(gate), [("merge", 0, 1)])
        number, gate = moved(gate, ("merge", 0, 1))
        self.assertEqual((number, gate), (1, Gate(7, [1, 1], [((0, 0), (1, 0), 4)], [])))
        self.same(moves_of(gate), [("force", 0), ("force", 1)])
        self.assertEqual(moved(gate, ("force", 0)), (4, Gate(7, [], [], [])))
        self.assertEqual(settled(SQUARE), (4, Gate(7, [], [], [])))

    def test_moves_of(self):
        chance = chance_of(350)
        words = set()
        for _ in range(120):
            gate = self.some(chance)
            told = moves_of(gate)
            self.same(told, plain_moves(gate))
            words |= {move[0] for move in told}
        self.assertEqual(words, {"contract", "drop", "force", "merge"})
        self.same(moves_of(Gate(7, [], [], [])), [])
        self.assertIsNot(moves_of(SQUARE), moves_of(SQUARE))

    def test_moved(self):
        chance = chance_of(351)
        for _ in range(80):
            gate = self.some(chance)
            rule = plain_rule(gate)
            for move in moves_of(gate):
                told = moved(gate, move)
                self.assertEqual((type(told), len(told)), (tuple, 2))
                self.assertEqual(scaled(pairing_rule(told[1]), told[0]), rule, move)
                self.assertTrue(is_flat_gate(told[1]) or not is_flat_gate(gate))

    def test_contract_by_hand(self):
        # Place 0 is tied to leg 1 of place 1 by 2 and to leg 0 of place 2 by 3; places 1 and 2 are tied by 5.
        ties = [((0, 0), (1, 1), 2), ((0, 1), (2, 0), 3), ((1, 2), (2, 2), 5), ((1, 0), (3, 0), 4),
                ((2, 1), (3, 1), 6), ((1, 3), (1, 4), 1)]
        gate = Gate(7, [2, 5, 3, 3], ties, [(3, 2)])
        number, told = moved(gate, ("contract", 0))
        # The legs of the new place 1: 2, 3, 4, 0 of what was place 1, then 1, 2 of what was place 2.
        wanted = [((1, 0), (1, 5), 5 * 2 * 3 % 7), ((1, 3), (0, 0), 4 * 3 % 7), ((1, 4), (0, 1), 6 * 2 % 7),
                  ((1, 1), (1, 2), 1 * 3 * 3 % 7)]
        self.assertEqual((number, told), (1, Gate(7, [3, 6], wanted, [(0, 2)])))

    def test_drop_force_merge_by_hand(self):
        ties = [((0, 0), (1, 0), 2), ((0, 2), (1, 1), 0), ((1, 2), (2, 0), 3), ((2, 1), (2, 2), 4)]
        gate = Gate(7, [3, 3, 3], ties, [(0, 1)])
        self.same(moves_of(gate), [("drop", 1), ("drop", 3), ("merge", 0, 1)])
        self.assertEqual(moved(gate, ("drop", 1)), (1, Gate(
            7, [2, 2, 3], [((0, 0), (1, 0), 2), ((1, 1), (2, 0), 3), ((2, 1), (2, 2), 4)], [(0, 1)])))
        number, told = moved(gate, ("drop", 3))
        self.assertEqual(told.places, (3, 3, 1))
        # The last place has one leg now; the place it is tied to goes, and with it all legs that lead to it.
        self.same(moves_of(told), [("drop", 1), ("force", 2), ("merge", 0, 1)])
        self.assertEqual(moved(told, ("force", 2)), (3, Gate(7, [1], [], [(0, 0)])))
        heavy = Gate(7, [3, 3], [((0, 0), (1, 2), 5), ((0, 1), (1, 1), 4), ((0, 2), (1, 0), 1)], [])
        self.assertEqual(moved(heavy, ("merge", 0, 2)), (1, Gate(
            7, [2, 2], [((0, 0), (1, 1), 6), ((0, 1), (1, 0), 4)], [])))
        zero = Gate(7, [1, 1], [((0, 0), (1, 0), 0)], [])
        self.assertEqual(moved(zero, ("force", 0)), (0, Gate(7, [], [], [])))
        self.assertEqual(moved(zero, ("drop", 0)), (1, Gate(7, [0, 0], [], [])))

    def test_contract_limits(self):
        def lollipop(many, more):
            ties = [((0, 0), (1, 0), 1), ((0, 1), (2, 0), 1)]
            ties += [((1, 1 + 2 * k), (1, 2 + 2 * k), 1) for k in range((many - 1) // 2)]
            ties += [((2, 1 + 2 * k), (2, 2 + 2 * k), 1) for k in range((more - 1) // 2)]
            return Gate(7, [2, many, more], ties, [])

        self.assertIn(("contract", 0), moves_of(lollipop(5, 5)))
        self.assertIn(("contract", 0), moves_of(lollipop(7, 3)))
        self.assertEqual(moved(lollipop(7, 3), ("contract", 0))[1].places, (8,))
        self.assertNotIn(("contract", 0), moves_of(lollipop(7, 5)))
        for many, more in ((5, 4), (5, 6), (6, 5)):
            ties = [((0, 0), (1, 0), 1), ((0, 1), (2, 0), 1), ((1, 1), (2, 1), 1)]
            ties += [((1, k), (3, k), 1) for k in range(2, many)] + [((2, k), (4, k), 1) for k in range(2, more)]
            spots = [[leg for tie in ties for leg in tie[:2] if leg[0] == place] for place in (3, 4)]
            ties = [(one, (other[0], spots[other[0] - 3].index(other)) if other[0] > 2 else other, w)
                    for one, other, w in ties]
            gate = Gate(7, [2, many, more] + [len(spot) for spot in spots], ties, [])
            self.assertEqual(("contract", 0) in moves_of(gate), many + more <= 10)

    def test_settled(self):
        chance = chance_of(352)
        for _ in range(60):
            gate = self.some(chance)
            number, told = settled(gate)
            self.assertEqual(moves_of(told), [])
            self.assertEqual(scaled(pairing_rule(told), number), plain_rule(gate))
            product_of_all, step = 1, gate
            while moves_of(step):
                more, step = moved(step, moves_of(step)[0])
                product_of_all = product_of_all * more % 7
            self.assertEqual((number, told), (product_of_all, step))
        self.assertEqual(settled(Gate(7, [0], [], [])), (1, Gate(7, [0], [], [])))
        long = Gate(3, [2] * 240, [((k, 1), ((k + 1) % 240, 0), 2) for k in range(240)], [])
        self.assertEqual(settled(long), (2, Gate(3, [], [], [])))

    def test_moved_refused(self):
        for thing in ODD_THINGS:
            self.refuses(BadGate, None, moves_of, thing)
            self.refuses(BadGate, None, settled, thing)
            self.refuses(BadGate, None, moved, thing, None)
            self.refuses(BadMove, None, moved, SQUARE, thing)
        for thing in (("contract", 4), ["contract", 0], ("contract", 0, 0), ("contract", False), ("contract", True),
                      ("force", 0), ("drop", 0), ("merge", 0, 1), ("merge", 1, 0), ("contract", (0,)), (0, "contract"),
                      ("contract", 0.0), ("contract",), ({}, 0)):
            self.refuses(BadMove, None, moved, SQUARE, thing)
        two = Gate(7, [2, 2], [((0, 0), (1, 1), 1), ((0, 1), (1, 0), 3)], [])
        for thing in (("merge", False, 1), ("merge", 0, True), ("merge", 1, 0), ("merge", 0, 0), ["merge", 0, 1]):
            self.refuses(BadMove, None, moved, two, thing)


def square_gate(weights, outer=True):
    """Four places in a square, each with an outer leg; the inner face begins at the leg (0, 0)."""
    p, q, r, s = weights
    # From leg 0 of each place one goes on to leg 2 of the next one, behind which comes its leg 0.
    ties = [((0, 0), (1, 2), p), ((1, 0), (2, 2), q), ((2, 0), (3, 2), r), ((3, 0), (0, 2), s)]
    return Gate(7, [3] * 4, ties, [(k, 1) for k in range(4)])


class Renewed(Case):
    def test_by_hand(self):
        gate = square_gate((1, 2, 3, 4))
        number, told = renewed(gate, (0, 0))
        self.same(number, 11 % 7)
        half = pow(4, 5, 7)
        fresh = [((k, 1), (4 + k, 0), 1) for k in range(4)]
        for k, weight in enumerate((3, 4, 1, 2)):
            fresh.append(((4 + k, 2), (4 + (k + 1) % 4, 1), weight * half % 7))
        self.assertEqual(told, Gate(7, [2] * 4 + [3] * 4, fresh, [(k, 0) for k in range(4)]))
        self.assertEqual(scaled(pairing_rule(told), number), plain_rule(gate))
        # From another leg of the face on, the new places stand in another sequence.
        number, told = renewed(gate, (2, 0))
        fresh = [((k, 1), (4 + (k + 2) % 4, 0), 1) for k in range(4)]
        for k, weight in enumerate((1, 2, 3, 4)):
            fresh.append(((4 + k, 2), (4 + (k + 1) % 4, 1), weight * half % 7))
        self.assertEqual(told, Gate(7, [2] * 4 + [3] * 4, fresh, [(k, 0) for k in range(4)]))
        self.assertEqual(scaled(pairing_rule(told), number), plain_rule(gate))

    def test_rules(self):
        chance = chance_of(360)
        done = 0
        while done < 40:
            gate = some_flat_gate(chance, 7, chance.randrange(4, 6), 8)
            for place, many in enumerate(gate.places):
                for k in range(many):
                    try:
                        number, told = renewed(gate, (place, k))
                    except (NoSquare, BadNumber):
                        continue
                    done += 1
                    self.assertTrue(is_flat_gate(told))
                    self.assertEqual(len(told.places), len(gate.places) + 4)
                    self.assertEqual(len(told.ties), len(gate.ties) + 4)
                    self.assertEqual(scaled(pairing_rule(told), number), plain_rule(gate))

    def test_refused(self):
        gate = square_gate((1, 2, 3, 4))
        for thing in ODD_THINGS:
            self.refuses(BadGate, None, renewed, thing, None)
            self.refuses(BadNumber, "leg", renewed, gate, thing)
        for thing in ((0, 1), (4, 0), (0, 3), (-1, 0), [0, 0], (0, False), (False, 0), (0, 0, 0)):
            self.refuses(BadNumber, "leg", renewed, gate, thing)
        # The other side of the square is not a face of four legs, for the outer legs stand there.
        self.refuses(NoSquare, None, renewed, gate, (0, 2))
        # 1 * 6 + 2 * 4 is 14.
        self.refuses(NoSquare, None, renewed, square_gate((1, 2, 6, 4)), (0, 0))
        self.refuses(NoSquare, None, renewed, square_gate((0, 2, 6, 0)), (0, 0))
        twice = Gate(7, [2, 2], [((0, 0), (1, 1), 1), ((0, 1), (1, 0), 3)], [])
        self.refuses(NoSquare, None, renewed, twice, (0, 0))
        row = Gate(7, [1, 2, 1], [((0, 0), (1, 0), 1), ((1, 1), (2, 0), 1)], [])
        self.refuses(NoSquare, None, renewed, row, (0, 0))
        single = Gate(7, [1, 1], [((0, 0), (1, 0), 1)], [])
        self.refuses(NoSquare, None, renewed, single, (0, 0))

    def test_limits(self):
        square = [((0, 0), (1, 1), 1), ((1, 0), (2, 1), 1), ((2, 0), (3, 1), 1), ((3, 0), (0, 1), 1)]
        self.refuses(TooMany, 240, renewed, Gate(7, [2] * 4 + [0] * 233, square, []), (0, 0))
        self.assertEqual(len(renewed(Gate(7, [2] * 4 + [0] * 232, square, []), (0, 0))[1].places), 240)
        ties = square + [((4 + t // 4, 2 * (t % 4)), (4 + t // 4, 2 * (t % 4) + 1), 1) for t in range(393)]
        places = [2] * 4 + [8] * 98 + [2]
        self.refuses(TooMany, 400, renewed, Gate(7, places, ties, []), (0, 0))
        self.assertEqual(len(renewed(Gate(7, places[:-1], ties[:-1], []), (0, 0))[1].ties), 400)
        flat = [(one, other, 1 if weight else 0) for one, other, weight in ties]
        flat[0] = (flat[0][0], flat[0][1], 6)
        self.refuses(NoSquare, None, renewed, Gate(7, places, flat, []), (0, 0))
