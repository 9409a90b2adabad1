from itertools import product

from helpers import ODD_THINGS, Case, at, chance_of, some_rule, table_of

from onebasis.errors import BadBits, BadNumber, BadRule, TooMany
from onebasis.rules import (Rule, beside, closed, flipped, joined, mirrored, ones, scaled, set_leg, turned, worth)

PRIMES = [3, 5, 7, 11, 13, 17, 19, 23, 29, 31, 37, 41, 43, 47, 53, 59, 61, 67, 71, 73, 79, 83, 89, 97]


class Rules(Case):
    def setUp(self):
        chance = chance_of(10)
        self.made = [some_rule(chance, prime, legs) for prime in (3, 7, 97) for legs in (0, 1, 2, 3, 4)]

    def test_attributes(self):
        table = [0, 1, 2, 2]
        rule = Rule(3, table)
        table[0] = 2
        self.same((rule.prime, rule.legs, rule.table), (3, 2, (0, 1, 2, 2)))
        self.same(Rule(97, (96,)).table, (96,))
        self.assertEqual(Rule(prime=97, table=[5] * 256).legs, 8)

    def test_equal(self):
        self.assertEqual(Rule(3, [1, 2]), Rule(3, (1, 2)))
        self.assertNotEqual(Rule(3, [1, 2]), Rule(5, [1, 2]))
        self.assertNotEqual(Rule(3, [1, 2]), Rule(3, [2, 1]))
        self.assertNotEqual(Rule(3, [1]), Rule(3, [1, 1]))
        for thing in ODD_THINGS + [(1, 2)]:
            self.assertFalse(Rule(3, [1, 2]) == thing)
            self.assertTrue(Rule(3, [1, 2]) != thing)

    def test_primes(self):
        for number in range(-3, 120):
            if number in PRIMES:
                self.assertEqual(Rule(number, [0]).prime, number)
            else:
                self.refuses(BadRule, "prime", Rule, number, [0])
        for thing in (None, True, 3.0, "3", [3], (3,)):
            self.refuses(BadRule, "prime", Rule, thing, None)

    def test_tables(self):
        for many in range(0, 20):
            if many in (1, 2, 4, 8, 16):
                self.assertEqual(len(Rule(3, [0] * many).table), many)
            else:
                self.refuses(BadRule, "table", Rule, 3, [0] * many)
        for thing in (None, 1, "01", b"01", {0: 1}, {0, 1}, [0, 3], [0, -1], [0, True], [0, 1.0], [0, None],
                      [[0], 1], [0] * 512, iter([0, 1])):
            self.refuses(BadRule, "table", Rule, 3, thing)

    def test_worth(self):
        for rule in self.made:
            for k, bits in enumerate(product((0, 1), repeat=rule.legs)):
                self.assertEqual(worth(rule, bits), rule.table[k])
        rule = Rule(7, [0, 1, 2, 3, 4, 5, 6, 0])
        self.assertEqual(worth(rule, (1, 0, 0)), 4)
        for thing in (None, [0, 0, 0], (0, 0), (0, 0, 0, 0), (0, 0, 2), (0, 0, True), (0, 0, -1), (0, 0, None), "000"):
            self.refuses(BadBits, None, worth, rule, thing)
        for thing in ODD_THINGS:
            self.refuses(BadRule, None, worth, thing, None)

    def test_scaled(self):
        for rule in self.made:
            for number in (0, 1, rule.prime - 1):
                self.assertEqual(scaled(rule, number), Rule(rule.prime, [x * number % rule.prime for x in rule.table]))
            for thing in (rule.prime, -1, None, True, "1"):
                self.refuses(BadNumber, "number", scaled, rule, thing)
        self.refuses(BadRule, None, scaled, [1, 2], 99)

    def test_turned_and_mirrored(self):
        for rule in self.made:
            n = rule.legs
            for many in range(9):
                # Leg j of what is turned is leg j + many, so the old leg i has the bit of the new leg i - many.
                wanted = table_of(n, lambda bits: at(rule, [bits[(i - many) % n] for i in range(n)]))
                self.assertEqual(turned(rule, many).table, tuple(wanted))
            wanted = table_of(n, lambda bits: at(rule, bits[::-1]))
            self.assertEqual(mirrored(rule).table, tuple(wanted))
            for thing in (-1, 9, None, True, 1.0):
                self.refuses(BadNumber, "many", turned, rule, thing)
        self.refuses(BadRule, None, turned, None, None)
        self.refuses(BadRule, None, mirrored, None)
        self.assertEqual(turned(Rule(7, [0, 1, 2, 3]), 1), Rule(7, [0, 2, 1, 3]))
        self.assertEqual(turned(Rule(11, range_table(3)), 1), Rule(11, [0, 4, 1, 5, 2, 6, 3, 7]))

    def test_flipped_and_set(self):
        for rule in self.made:
            for leg in range(rule.legs):
                wanted = table_of(rule.legs, lambda bits: at(rule, with_bit(bits, leg, 1 - bits[leg])))
                self.assertEqual(flipped(rule, leg).table, tuple(wanted))
                for bit in (0, 1):
                    wanted = table_of(rule.legs - 1, lambda bits: at(rule, bits[:leg] + (bit,) + bits[leg:]))
                    self.assertEqual(set_leg(rule, leg, bit).table, tuple(wanted))
                for thing in (2, -1, True, None):
                    self.refuses(BadNumber, "bit", set_leg, rule, leg, thing)
            for thing in (-1, rule.legs, None, False):
                self.refuses(BadNumber, "leg", flipped, rule, thing)
                self.refuses(BadNumber, "leg", set_leg, rule, thing, 2)
        self.refuses(BadRule, None, flipped, 0, 0)
        self.refuses(BadRule, None, set_leg, 0, 0, 0)

    def test_beside(self):
        one, other = Rule(7, [1, 2]), Rule(7, [3, 4, 5, 6])
        self.assertEqual(beside(one, other), Rule(7, [3, 4, 5, 6, 6, 1, 3, 5]))
        self.assertEqual(beside(Rule(7, [2]), one), Rule(7, [2, 4]))
        eight = Rule(7, [1] * 256)
        self.assertEqual(beside(eight, Rule(7, [3])), Rule(7, [3] * 256))
        self.refuses(TooMany, 8, beside, eight, one)
        self.refuses(BadRule, "other", beside, eight, Rule(5, [1, 2]))
        self.refuses(BadRule, None, beside, one, 5)
        self.refuses(BadRule, None, beside, 5, one)

    def test_closed(self):
        for rule in self.made:
            for leg, other in product(range(rule.legs), repeat=2):
                if leg == other:
                    self.refuses(BadNumber, "other", closed, rule, leg, other)
                    continue
                first, second = sorted((leg, other))

                def told(bits):
                    total = 0
                    for bit in (0, 1):
                        more = list(bits)
                        more.insert(first, bit)
                        more.insert(second, bit)
                        total += at(rule, more)
                    return total % rule.prime

                self.assertEqual(closed(rule, leg, other).table, tuple(table_of(rule.legs - 2, told)))
            self.refuses(BadNumber, "leg", closed, rule, rule.legs, None)
            if rule.legs:
                for thing in (-1, rule.legs, None, True):
                    self.refuses(BadNumber, "other", closed, rule, 0, thing)
        self.refuses(BadRule, None, closed, None, 0, 0)

    def test_joined(self):
        chance = chance_of(11)
        for _ in range(40):
            rule, other = some_rule(chance, 7, chance.randrange(1, 5)), some_rule(chance, 7, chance.randrange(1, 5))
            leg, place = chance.randrange(rule.legs), chance.randrange(other.legs)
            n, m = rule.legs, other.legs

            def told(bits):
                total = 0
                for bit in (0, 1):
                    ones = {(leg + 1 + k) % n: bits[k] for k in range(n - 1)}
                    others = {(place + 1 + k) % m: bits[n - 1 + k] for k in range(m - 1)}
                    ones[leg] = others[place] = bit
                    total += at(rule, [ones[k] for k in range(n)]) * at(other, [others[k] for k in range(m)])
                return total % 7

            self.assertEqual(joined(rule, leg, other, place).table, tuple(table_of(n + m - 2, told)))
        five, eight = Rule(3, [1] * 32), Rule(3, [1] * 256)
        self.assertEqual(joined(five, 4, five, 0), Rule(3, [2] * 256))
        self.refuses(TooMany, 8, joined, eight, 0, Rule(3, [1] * 8), 0)
        self.refuses(BadNumber, "place", joined, eight, 0, eight, 8)
        self.refuses(BadNumber, "place", joined, eight, 0, Rule(3, [1]), 0)
        self.refuses(BadRule, "other", joined, eight, 0, Rule(5, [1]), 9)
        self.refuses(BadNumber, "leg", joined, eight, 8, Rule(5, [1]), 9)
        self.refuses(BadRule, None, joined, eight, 8, None, 9)
        self.refuses(BadRule, None, joined, None, 8, eight, 9)

    def test_ones(self):
        self.assertEqual(ones(7, 0, [5]), Rule(7, [5]))
        self.assertEqual(ones(7, 3, (1, 2, 3, 4)), Rule(7, [1, 2, 2, 3, 2, 3, 3, 4]))
        eight = ones(97, 8, list(range(9)))
        self.assertEqual(list(eight.table), table_of(8, sum))
        self.refuses(BadRule, "prime", ones, 9, 9, [])
        for thing in (-1, 9, None, True, "1"):
            self.refuses(BadNumber, "legs", ones, 3, thing, [])
        for thing in (None, [], [1], [1, 1, 1], [1, 3], [1, True], "12", {0: 1, 1: 2}):
            self.refuses(BadRule, "table", ones, 3, 1, thing)


def range_table(legs):
    return list(range(1 << legs))


def with_bit(bits, leg, bit):
    return bits[:leg] + (bit,) + bits[leg + 1:]
