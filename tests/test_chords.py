from itertools import combinations

from helpers import ODD_THINGS, Case, chance_of

from onebasis.chords import chord_gate, chord_rule
from onebasis.errors import BadChords, BadNumber, BadRule
from onebasis.gaterules import flat_rule
from onebasis.gates import Gate, is_flat_gate
from onebasis.identities import keeps_identities
from onebasis.rules import Rule


def crossing(one, other):
    (a, b, _), (c, d, _) = one, other
    return a < c < b < d or c < a < d < b


def plain_chords(prime, points, chords, sign):
    table = [0] * (1 << points)
    for many in range(points // 2 + 1):
        for lot in combinations(chords, many):
            ends = [x for chord in lot for x in chord[:2]]
            if len(set(ends)) == len(ends):
                number = sign ** sum(crossing(one, other) for one, other in combinations(lot, 2))
                for chord in lot:
                    number *= chord[2]
                table[sum(1 << (points - 1 - x) for x in ends)] += number
    return Rule(prime, [x % prime for x in table])


def some_chords(chance, prime, points, many):
    pairs = list(combinations(range(points), 2))
    chance.shuffle(pairs)
    return [(a, b, chance.choice((0, chance.randrange(prime)))) for a, b in pairs[:many]]


class Chords(Case):
    def test_by_hand(self):
        crossed = [(0, 2, 2), (1, 3, 3)]
        for sign in range(7):
            table = [0] * 16
            table[0], table[10], table[5], table[15] = 1, 2, 3, 6 * sign % 7
            self.assertEqual(chord_rule(7, 4, crossed, sign), Rule(7, table))
        beside = chord_rule(7, 4, ((0, 1, 2), (2, 3, 3)), 5)
        self.assertEqual((beside.table[0], beside.table[12], beside.table[3], beside.table[15]), (1, 2, 3, 6))
        self.assertEqual(chord_rule(7, 0, [], 0), Rule(7, [1]))
        self.assertEqual(chord_rule(7, 1, [], 0), Rule(7, [1, 0]))
        self.assertEqual(chord_rule(3, 8, [], 0), Rule(3, [1] + [0] * 255))

    def test_rules(self):
        chance = chance_of(340)
        for points in range(9):
            for _ in range(4):
                chords = some_chords(chance, 97, points, min(12, points * 2))
                for sign in (0, 1, 96, chance.randrange(97)):
                    self.assertEqual(chord_rule(97, points, chords, sign), plain_chords(97, points, chords, sign))

    def test_all_chords(self):
        chords = [(a, b, 1) for a, b in combinations(range(8), 2)]
        # Without signs each set of 2 k points has 1 * 3 * .. * (2 k - 1) sets of chords.
        self.assertEqual(chord_rule(97, 8, chords, 1).table[255], 105 % 97)
        self.assertEqual(chord_rule(97, 8, chords, 96).table[255], 1)
        self.assertEqual(chord_rule(97, 8, chords, 0).table[255], 14)

    def test_gates_and_bars(self):
        chance = chance_of(341)
        words = []
        for _ in range(80):
            prime, points = chance.choice((3, 7)), chance.choice((0, 2, 4, 5, 6))
            chords = some_chords(chance, prime, points, chance.randrange(9))
            sign = chance.choice((0, 1, prime - 1, 1))
            told = chord_gate(prime, points, chords, sign)
            heavy = [chord for chord in chords if chord[2]]
            crossed = [tuple(sorted(pair)) for pair in combinations(heavy, 2) if crossing(*pair)]
            words.append(told[0])
            self.assertEqual((type(told), len(told)), (tuple, 2))
            if crossed and sign != prime - 1:
                self.same(told, ("bar", min(crossed)))
                self.assertFalse(keeps_identities(plain_chords(prime, points, chords, sign)))
            else:
                self.assertEqual(told[0], "gate")
                self.assertIsInstance(told[1], Gate)
                self.assertTrue(is_flat_gate(told[1]))
                self.assertEqual(flat_rule(told[1]), plain_chords(prime, points, chords, sign))
        self.assertGreater(min(words.count("gate"), words.count("bar")), 5)

    def test_weights_of_zero_do_not_bar(self):
        self.assertEqual(chord_gate(7, 4, [(0, 2, 0), (1, 3, 3)], 1)[0], "gate")
        told = chord_gate(7, 6, [(2, 4, 1), (3, 5, 1), (1, 3, 2), (0, 2, 0)], 1)
        self.same(told, ("bar", ((1, 3, 2), (2, 4, 1))))
        chords = [(a, b, 1) for a, b in combinations(range(8), 2)]
        told = chord_gate(97, 8, chords, 96)
        self.assertEqual(flat_rule(told[1]), chord_rule(97, 8, chords, 96))
        self.same(chord_gate(97, 8, chords, 1), ("bar", ((0, 2, 1), (1, 3, 1))))

    def test_refused(self):
        for call in (chord_rule, chord_gate):
            for thing in ODD_THINGS + [2, 9, 99]:
                self.refuses(BadRule, "prime", call, thing, None, None, None)
            for thing in (None, -1, 9, True, "1"):
                self.refuses(BadNumber, "points", call, 7, thing, None, None)
            for thing in (None, 5, [(0, 1)], [[0, 1, 2]], [(1, 0, 2)], [(0, 0, 2)], [(0, 4, 2)], [(-1, 1, 2)],
                          [(0, 1, 7)], [(0, 1, -1)], [(0, 1, True)], [(0, True, 2)], [(0, 1, 2), (0, 1, 3)],
                          [(0, 1, 2, 3)], {(0, 1, 2): 3}, [None], [(0, 1, None)]):
                self.refuses(BadChords, None, call, 7, 4, thing, None)
            for thing in (None, -1, 7, True, "1"):
                self.refuses(BadNumber, "sign", call, 7, 4, [(0, 1, 2)], thing)
