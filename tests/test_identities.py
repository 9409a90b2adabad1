from formhelpers import every_identity, plain_identity, some_formed_rule
from helpers import ODD_THINGS, Case, chance_of, some_rule

from onebasis.errors import BadBits, BadNumber, BadRule
from onebasis.identities import identity, keeps_identities, least_broken
from onebasis.rules import Rule


def plain_broken(rule):
    for bits, legs in every_identity(rule.legs):
        if plain_identity(rule, bits, legs):
            return (bits, legs)
    return None


class Identities(Case):
    def test_identity(self):
        chance = chance_of(200)
        for legs in range(1, 5):
            rule = some_rule(chance, 7, legs)
            for bits, told in every_identity(legs):
                self.same(identity(rule, bits, told), plain_identity(rule, bits, told))

    def test_by_hand(self):
        table = [0] * 16
        table[0], table[12], table[3], table[15] = 1, 2, 3, 6
        self.assertIs(keeps_identities(Rule(7, table)), True)
        self.assertIsNone(least_broken(Rule(7, table)))
        table[15] = 5
        broken = Rule(7, table)
        self.same(least_broken(broken), ((0, 0, 0, 1), (0, 1, 2, 3)))
        self.same(identity(broken, (0, 0, 0, 1), (0, 1, 2, 3)), 6)
        self.assertIs(keeps_identities(broken), False)

    def test_one_leg_and_none(self):
        self.assertIsNone(least_broken(Rule(3, [2])))
        self.assertIs(keeps_identities(Rule(3, [0])), True)
        self.same(least_broken(Rule(3, [1, 2])), ((0,), (0,)))
        self.assertIsNone(least_broken(Rule(3, [0, 2])))
        self.assertIsNone(least_broken(Rule(3, [0] * 256)))

    def test_rules_that_keep_all_and_one_worth_changed(self):
        chance = chance_of(201)
        broken = 0
        for prime in (3, 7, 97):
            for legs in range(1, 5):
                for _ in range(4):
                    rule = some_formed_rule(chance, prime, legs)
                    self.assertIsNone(plain_broken(rule))
                    self.assertIsNone(least_broken(rule))
                    self.assertIs(keeps_identities(rule), True)
                    table = list(rule.table)
                    k = chance.randrange(len(table))
                    table[k] = (table[k] + chance.randrange(1, prime)) % prime
                    changed = Rule(prime, table)
                    self.same(least_broken(changed), plain_broken(changed))
                    self.assertIs(keeps_identities(changed), plain_broken(changed) is None)
                    broken += plain_broken(changed) is not None
        self.assertGreater(broken, 20)

    def test_eight_legs(self):
        chance = chance_of(202)
        rule = some_formed_rule(chance, 7, 8)
        self.assertIs(keeps_identities(rule), True)
        table = list(rule.table)
        k = next(k for k in range(200, 256) if table[k])
        table[k] = (table[k] + 1) % 7
        bits, legs = least_broken(Rule(7, table))
        self.assertNotEqual(identity(Rule(7, table), bits, legs), 0)
        self.assertEqual(plain_identity(Rule(7, table), bits, legs), identity(Rule(7, table), bits, legs))

    def test_refused(self):
        rule = Rule(7, [1, 2, 3, 4])
        for thing in ODD_THINGS:
            self.refuses(BadRule, None, identity, thing, None, None)
            self.refuses(BadRule, None, keeps_identities, thing)
            self.refuses(BadRule, None, least_broken, thing)
        for thing in (None, [0, 0], (0,), (0, 0, 0), (0, 2), (0, True), "00"):
            self.refuses(BadBits, None, identity, rule, thing, None)
        for thing in (None, [0], (), (0, 0), (1, 0), (2,), (-1,), (True,), (0, 1.0), "0", 0):
            self.refuses(BadNumber, "legs", identity, rule, (0, 0), thing)
