from itertools import product

from helpers import ODD_THINGS, Case, chance_of

from onebasis.errors import BadRule
from onebasis.lots import bases_of
from onebasis.onesrules import equations, ones_kind
from onebasis.rules import Rule, ones


def plain_equations(prime, worths):
    return {(a, b, c) for a, b, c in product(range(prime), repeat=3) if (a, b, c) != (0, 0, 0) and all(
        (a * worths[k] + b * worths[k + 1] + c * worths[k + 2]) % prime == 0 for k in range(len(worths) - 2))}


def sums_of(prime, rows):
    found = {tuple(sum(f * row[k] for f, row in zip(factors, rows)) % prime for k in range(3))
             for factors in product(range(prime), repeat=len(rows))}
    return found - {(0, 0, 0)}


class OnesRules(Case):
    def told_well(self, prime, worths):
        rule = ones(prime, len(worths) - 1, worths)
        told = equations(rule)
        self.same(told, sorted(told))
        leads = [next(k for k, x in enumerate(row) if x) for row in told]
        for lead, row in zip(leads, told):
            self.assertEqual((type(row), len(row), row[lead]), (tuple, 3, 1))
            self.assertEqual([other[lead] for other in told if other != row], [0] * (len(told) - 1))
        self.assertEqual(sums_of(prime, told), plain_equations(prime, worths))
        self.assertEqual(len(plain_equations(prime, worths)), prime ** len(told) - 1)
        kind = ones_kind(rule)
        if len(told) != 1:
            self.assertEqual(kind, {3: "zero", 2: "power", 0: "none"}[len(told)])
        else:
            a, b, c = told[0]
            points = [(0, 1)] + [(1, t) for t in range(prime)]
            zeros = [1 for s, t in points if (a * s * s + b * s * t + c * t * t) % prime == 0]
            self.assertEqual(kind, {2: "split", 1: "double", 0: "twin"}[len(zeros)])
        return kind

    def test_by_hand(self):
        self.same(equations(ones(7, 3, [0, 0, 0, 0])), [(0, 0, 1), (0, 1, 0), (1, 0, 0)])
        self.same(equations(ones(7, 3, [1, 2, 4, 1])), [(0, 1, 3), (1, 0, 5)])
        self.same(equations(ones(7, 3, [1, 0, 0, 1])), [(0, 1, 0)])
        self.same(equations(ones(7, 4, [1, 0, 0, 0, 1])), [(0, 1, 0)])
        self.same(equations(ones(7, 4, [1, 0, 0, 1, 0])), [])
        self.assertEqual(ones_kind(ones(7, 3, [1, 0, 0, 1])), "split")
        self.assertEqual(ones_kind(ones(7, 4, [0, 1, 0, 0, 0])), "double")
        self.assertEqual(ones_kind(ones(7, 4, [1, 0, 6, 0, 1])), "twin")
        self.assertEqual(ones_kind(ones(5, 4, [1, 0, 4, 0, 1])), "split")

    def test_all_rules_of_three_and_four_legs(self):
        kinds = set()
        for worths in product(range(3), repeat=4):
            kinds.add(self.told_well(3, list(worths)))
        for worths in product(range(3), repeat=5):
            kinds.add(self.told_well(3, list(worths)))
        self.assertEqual(kinds, {"zero", "power", "none", "split", "double", "twin"})
        chance = chance_of(56)
        for _ in range(20):
            self.told_well(7, [chance.randrange(7) for _ in range(9)])

    def test_how_many_bases(self):
        for worths in product(range(3), repeat=5):
            rule = ones(3, 4, list(worths))
            many = len(bases_of(3, [rule], []))
            kind = ones_kind(rule)
            if kind in ("zero", "power", "none", "double"):
                self.assertEqual(many, {"zero": 6, "power": 3, "none": 0, "double": 1}[kind])
            else:
                self.assertIn(many, (0, 1, 2, 3))
        for worths in product(range(3), repeat=4):
            rule = ones(3, 3, list(worths))
            many = len(bases_of(3, [rule], []))
            if ones_kind(rule) == "double":
                self.assertIn(many, (0, 3))

    def test_how_many_bases_split_rules_have(self):
        for prime, legs in ((5, 3), (5, 4), (7, 3)):
            points = [(0, 1)] + [(1, t) for t in range(prime)]
            chance = chance_of(57)
            for _ in range(12):
                (s, t), (u, v) = chance.sample(points, 2)
                g, h = chance.randrange(1, prime), chance.randrange(1, prime)
                worths = [(g * s ** (legs - k) * t ** k + h * u ** (legs - k) * v ** k) % prime for k in range(legs + 1)]
                rule = ones(prime, legs, worths)
                self.assertEqual(ones_kind(rule), "split")
                many = len(bases_of(prime, [rule], []))
                roots = [r for r in range(1, prime) if (r ** legs * h - g) * (r ** legs * h + g) % prime == 0]
                self.assertEqual(2 * many, len(roots))

    def test_how_many_bases_twin_rules_have(self):
        # Modulo 3 and 7 no square is -1, so pairs (a, b) stand for a + b * i with i * i = -1.
        chance = chance_of(58)

        def power(prime, pair, many, start=(1, 0)):
            for _ in range(many):
                start = ((start[0] * pair[0] - start[1] * pair[1]) % prime, (start[0] * pair[1] + start[1] * pair[0]) % prime)
            return start

        for prime, legs in ((3, 3), (3, 4), (3, 5), (7, 3), (7, 4)):
            for _ in range(10):
                t = (chance.randrange(prime), chance.randrange(1, prime))
                g = chance.choice([pair for pair in product(range(prime), repeat=2) if any(pair)])
                worths = [2 * power(prime, t, k, g)[0] % prime for k in range(legs + 1)]
                rule = ones(prime, legs, worths)
                self.assertEqual(ones_kind(rule), "twin")
                h = (g[0], -g[1] % prime)
                signed = (g, (-g[0] % prime, -g[1] % prime))
                roots = [r for r in product(range(prime), repeat=2) if (r[0] * r[0] + r[1] * r[1]) % prime == 1
                         and power(prime, r, legs, h) in signed]
                many = len(bases_of(prime, [rule], []))
                self.assertEqual(2 * many, len(roots))

    def test_how_many_bases_double_rules_have(self):
        for prime, legs in ((3, 3), (3, 4), (3, 6), (5, 5), (5, 4)):
            chance = chance_of(59)
            for _ in range(10):
                t = chance.randrange(prime)
                g, h = chance.randrange(prime), chance.randrange(1, prime)
                worths = [(g + h * k) * t ** k % prime if t else (g, h, 0)[min(k, 2)] for k in range(legs + 1)]
                rule = ones(prime, legs, worths)
                self.assertEqual(ones_kind(rule), "double")
                many = len(bases_of(prime, [rule], []))
                self.assertIn(many, (prime, 0) if legs % prime == 0 else (1,))

    def test_refused(self):
        for call in (equations, ones_kind):
            for thing in ODD_THINGS:
                self.refuses(BadRule, None, call, thing)
            for rule in (Rule(3, [1]), Rule(3, [1, 1]), Rule(3, [1] * 4), Rule(3, [1, 1, 1, 1, 2, 1, 1, 1]),
                         Rule(3, [0] * 254 + [1, 0])):
                self.refuses(BadRule, "ones", call, rule)
        self.assertEqual(ones_kind(Rule(3, [1] * 256)), "power")
