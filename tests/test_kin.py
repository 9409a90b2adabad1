from itertools import product

from helpers import ODD_THINGS, Case, chance_of, some_rule

from onebasis.bases import Basis, changed
from onebasis.errors import BadRule, TooMany
from onebasis.kin import kin
from onebasis.rules import Rule


def every_basis(prime):
    return [Basis(prime, [[a, b], [c, d]]) for a, b, c, d in product(range(prime), repeat=4) if (a * d - b * c) % prime]


class Kin(Case):
    def test_all_bases(self):
        chance = chance_of(52)
        for prime, legs in ((3, 0), (3, 1), (3, 2), (3, 3), (5, 2), (5, 3)):
            every = every_basis(prime)
            for _ in range(4):
                rule = some_rule(chance, prime, legs)
                others = [rule, changed(rule, chance.choice(every)), some_rule(chance, prime, legs)]
                for other in others:
                    wanted = [basis for basis in every if changed(rule, basis) == other]
                    self.assertEqual(kin(rule, other), wanted)
                    self.assertIn(len(wanted), (0, len(kin(rule, rule))))

    def test_orbits(self):
        for rule in (Rule(3, [1, 0, 0, 1]), Rule(3, [0, 1, 2, 0]), Rule(3, [1, 1, 0, 0]), Rule(3, [0] * 4), Rule(3, [1])):
            unlike = []
            for basis in every_basis(3):
                told = changed(rule, basis)
                if told not in unlike:
                    unlike.append(told)
            self.assertEqual(len(kin(rule, rule)) * len(unlike), (9 - 1) * (9 - 3))

    def test_greater(self):
        rows = [basis.rows for basis in kin(Rule(7, [3]), Rule(7, [3]))]
        self.same(rows, sorted(rows))
        self.assertEqual(len(rows), 48 * 42)
        self.assertEqual(kin(Rule(7, [3]), Rule(7, [4])), [])
        chance = chance_of(53)
        rule = some_rule(chance, 7, 8)
        basis = Basis(7, [[1, 2], [3, 4]])
        self.assertIn(basis, kin(rule, changed(rule, basis)))
        self.assertIn(Basis(7, [[1, 0], [0, 1]]), kin(rule, rule))

    def test_refused(self):
        rule = Rule(7, [1, 2])
        for thing in ODD_THINGS:
            self.refuses(BadRule, None, kin, rule, thing)
            self.refuses(BadRule, None, kin, thing, rule)
        self.refuses(BadRule, "other", kin, rule, Rule(5, [1, 2]))
        self.refuses(BadRule, "other", kin, rule, Rule(7, [1]))
        self.refuses(BadRule, "other", kin, Rule(11, [1]), Rule(11, [1, 2]))
        self.refuses(TooMany, 7, kin, Rule(11, [1]), Rule(11, [1]))
