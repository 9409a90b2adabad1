from itertools import product

from helpers import ODD_THINGS, Case, at, chance_of, some_rule

from onebasis.bases import Basis, changed, changed_by, inverse, other_side, times
from onebasis.errors import BadBasis, BadRule
from onebasis.rules import Rule


def some_basis(chance, prime):
    while True:
        a, b, c, d = (chance.randrange(prime) for _ in range(4))
        if (a * d - b * c) % prime:
            return Basis(prime, [[a, b], [c, d]])


def plain_changed(rule, bases):
    """The worths by the sum over all tuples of bits."""
    tuples = list(product((0, 1), repeat=rule.legs))
    worths = []
    for b in tuples:
        total = 0
        for a in tuples:
            number = at(rule, a)
            for j, basis in enumerate(bases):
                number *= basis.rows[a[j]][b[j]]
            total += number
        worths.append(total % rule.prime)
    return Rule(rule.prime, worths)


class Bases(Case):
    def test_attributes(self):
        rows = [[1, 2], [3, 4]]
        basis = Basis(7, rows)
        rows[0][0] = 5
        rows.append(1)
        self.same((basis.prime, basis.rows), (7, ((1, 2), (3, 4))))
        self.assertEqual(basis, Basis(7, ((1, 2), (3, 4))))
        self.assertNotEqual(basis, Basis(7, ((1, 2), (3, 5))))
        self.assertNotEqual(Basis(3, [[1, 0], [0, 1]]), Basis(5, [[1, 0], [0, 1]]))
        for thing in ODD_THINGS + [((1, 2), (3, 4))]:
            self.assertFalse(basis == thing)

    def test_refused(self):
        for thing in ODD_THINGS + [1, 2, 9, 99]:
            self.refuses(BadBasis, "prime", Basis, thing, None)
        for rows in (None, 5, [], [[1, 0]], [[1, 0], [0, 1], [0, 0]], [[1, 0, 0], [0, 1]], [[1, 0], [0]], [[1, 0], None],
                     [[1, 0], [0, 7]], [[1, 0], [0, -1]], [[1, 0], [0, True]], [[1, 2], [2, 4]], [[1, 2], [4, 1]],
                     [[0, 0], [0, 0]], "ab", {0: (1, 0), 1: (0, 1)}):
            self.refuses(BadBasis, "rows", Basis, 7, rows)

    def test_times_and_inverse(self):
        chance = chance_of(50)
        for prime in (3, 7, 97):
            unit = Basis(prime, [[1, 0], [0, 1]])
            for _ in range(10):
                one, other = some_basis(chance, prime), some_basis(chance, prime)
                rows = [[sum(one.rows[x][z] * other.rows[z][y] for z in (0, 1)) % prime for y in (0, 1)] for x in (0, 1)]
                self.assertEqual(times(one, other), Basis(prime, rows))
                self.assertEqual(times(one, inverse(one)), unit)
                self.assertEqual(times(inverse(one), one), unit)
                (a, b), (c, d) = inverse(one).rows
                self.assertEqual(other_side(one), Basis(prime, [[a, c], [b, d]]))
        self.assertEqual(times(Basis(7, [[1, 1], [0, 1]]), Basis(7, [[1, 0], [1, 1]])), Basis(7, [[2, 1], [1, 1]]))
        seven, five = Basis(7, [[1, 0], [0, 1]]), Basis(5, [[1, 0], [0, 1]])
        self.refuses(BadBasis, "other", times, seven, five)
        for thing in ODD_THINGS:
            self.refuses(BadBasis, None, times, seven, thing)
            self.refuses(BadBasis, None, times, thing, seven)
            self.refuses(BadBasis, None, inverse, thing)
            self.refuses(BadBasis, None, other_side, thing)

    def test_changed(self):
        chance = chance_of(51)
        for prime in (3, 7, 97):
            for legs in range(5):
                rule = some_rule(chance, prime, legs)
                bases = [some_basis(chance, prime) for _ in range(legs)]
                self.assertEqual(changed_by(rule, bases), plain_changed(rule, bases))
                self.assertEqual(changed_by(rule, tuple(bases)), changed_by(rule, bases))
                basis = some_basis(chance, prime)
                self.assertEqual(changed(rule, basis), plain_changed(rule, [basis] * legs))
                self.assertEqual(changed(changed(rule, basis), inverse(basis)), rule)
        eight = some_rule(chance, 97, 8)
        basis = some_basis(chance, 97)
        self.assertEqual(changed(changed(eight, basis), inverse(basis)), eight)

    def test_changed_refused(self):
        rule, seven, five = Rule(7, [1, 2]), Basis(7, [[1, 0], [0, 1]]), Basis(5, [[1, 0], [0, 1]])
        for thing in ODD_THINGS:
            self.refuses(BadRule, None, changed, thing, None)
            self.refuses(BadBasis, None, changed, rule, thing)
            self.refuses(BadRule, None, changed_by, thing, None)
        self.refuses(BadBasis, "prime", changed, rule, five)
        self.refuses(BadBasis, "prime", changed, Rule(7, [1]), five)
        for thing in (None, seven, [], [seven, seven], [five], [None], {0: seven}):
            self.refuses(BadBasis, "bases", changed_by, rule, thing)
        self.assertEqual(changed_by(Rule(7, [3]), []), Rule(7, [3]))
