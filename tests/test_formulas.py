from itertools import product

from helpers import ODD_THINGS, Case, at, brute_sum, chance_of, some_rule

from onebasis.basissums import basis_sum
from onebasis.errors import BadFormula, NotFlat, TooMany
from onebasis.formulas import Formula, formula_sum, formula_web, solutions
from onebasis.lots import first_basis
from onebasis.rules import Rule, ones
from onebasis.webs import Web, is_flat

ANY = ones(7, 3, [0, 1, 1, 1])
ONE = Rule(7, [2, 5])


def some_formula(chance, prime, variables, clauses):
    told = []
    for _ in range(clauses):
        legs = chance.randrange(4) if variables else 0
        told.append((some_rule(chance, prime, legs), [chance.randrange(variables) for _ in range(legs)]))
    return Formula(prime, variables, told)


def plain_solutions(formula):
    total = 0
    for bits in product((0, 1), repeat=formula.variables):
        number = 1
        for rule, places in formula.clauses:
            number *= at(rule, [bits[place] for place in places])
        total += number
    return total % formula.prime


def prism(many):
    """Clauses at two rings of so many corners, each with its fellow at the other ring; variables at all edges."""
    outer = [(ANY, [(k - 1) % many, 2 * many + k, k]) for k in range(many)]
    inner = [(ANY, [many + k, 2 * many + k, many + (k - 1) % many]) for k in range(many)]
    return Formula(7, 3 * many, outer + inner)


class Formulas(Case):
    def test_attributes(self):
        places = [0, 1, 0]
        clauses = [(ANY, places)]
        formula = Formula(7, 2, clauses)
        places[0] = 1
        clauses.append(None)
        self.same((formula.prime, formula.variables, formula.clauses[0][1]), (7, 2, (0, 1, 0)))
        self.assertEqual(formula.clauses, ((ANY, (0, 1, 0)),))
        self.assertIs(type(formula.clauses), tuple)
        self.assertEqual(formula, Formula(7, 2, ((ANY, (0, 1, 0)),)))
        for other in (Formula(7, 3, formula.clauses), Formula(7, 2, []), Formula(7, 2, [(ANY, [0, 1, 1])])):
            self.assertNotEqual(formula, other)
        self.assertNotEqual(Formula(7, 0, []), Formula(5, 0, []))
        for thing in ODD_THINGS:
            self.assertFalse(formula == thing)

    def test_formula_refused(self):
        for thing in ODD_THINGS + [2, 9, 101]:
            self.refuses(BadFormula, "prime", Formula, thing, None, None)
        for thing in ODD_THINGS + [61]:
            self.refuses(BadFormula, "variables", Formula, 7, thing, None)
        good = (ONE, [0])
        for thing in (None, 5, "", {}, [None], [[ONE, [0]]], [(ONE,)], [(ONE, [0], 0)], [(ONE, [])], [(ONE, [0, 0])],
                      [(ONE, [1])], [(ONE, [-1])], [(ONE, [True])], [(ONE, [0.0])], [(ONE, 0)], [(ONE, {0: 0})],
                      [(Rule(5, [1, 2]), [0])], [([2, 5], [0])], [(None, [])], [good] * 61, good):
            self.refuses(BadFormula, "clauses", Formula, 7, 1, thing)
        self.assertEqual(len(Formula(7, 60, [good] * 60).clauses), 60)
        for thing in ODD_THINGS:
            for call in (solutions, formula_web, formula_sum):
                self.refuses(BadFormula, None, call, thing)

    def test_solutions(self):
        chance = chance_of(580)
        for number in range(60):
            formula = some_formula(chance, (3, 97)[number % 2], number % 6, chance.randrange(5))
            self.same(solutions(formula), plain_solutions(formula))
        self.same(solutions(Formula(7, 12, [])), 2 ** 12 % 7)
        self.refuses(TooMany, 12, solutions, Formula(7, 13, []))

    def test_formula_web(self):
        chance = chance_of(581)
        for number in range(40):
            formula = some_formula(chance, 5, chance.randrange(5), chance.randrange(5))
            if sum(len(places) for _, places in formula.clauses) > 9:
                continue
            web = formula_web(formula)
            many = len(formula.clauses)
            self.assertEqual(web.rules[:many], tuple(rule for rule, _ in formula.clauses))
            free = [0] * formula.variables
            ties = []
            for clause, (_, places) in enumerate(formula.clauses):
                for k, place in enumerate(places):
                    ties.append(((clause, k), (many + place, free[place])))
                    free[place] += 1
            wanted = [ones(5, m, [2] if m == 0 else [1, 1] if m == 1 else [1] + [0] * (m - 1) + [1]) for m in free]
            self.assertEqual(web, Web(5, list(web.rules[:many]) + wanted, ties, []))
            self.assertEqual(brute_sum(web), [solutions(formula)])

    def test_formula_sum(self):
        chance = chance_of(582)
        found = {"sum": 0, "none": 0, "crossed": 0}
        for number in range(200):
            formula = some_formula(chance, (3, 7)[number % 2], chance.randrange(5), chance.randrange(4))
            web = formula_web(formula)
            if not is_flat(web):
                self.refuses(NotFlat, None, formula_sum, formula)
                found["crossed"] += 1
                continue
            told = formula_sum(formula)
            many = len(formula.clauses)
            basis = first_basis(formula.prime, web.rules[:many], web.rules[many:])
            if basis is None:
                self.assertIsNone(told)
                found["none"] += 1
            else:
                self.assertEqual(told, (basis, plain_solutions(formula)))
                self.assertIs(type(told[1]), int)
                self.assertEqual(told[0], basis_sum(web, list(range(many)))[0])
                found["sum"] += 1
        self.assertGreater(min(found.values()), 15)

    def test_many_variables(self):
        for many in (1, 2, 3, 4, 12):
            formula = prism(many)
            # Step by step round both rings, from two edges of them to the next two.
            pairs = list(product((0, 1), repeat=2))
            step = {(x, y): sum(at(ANY, (x[0], z, y[0])) * at(ANY, (y[1], z, x[1])) for z in (0, 1))
                    for x in pairs for y in pairs}
            total = 0
            for first in pairs:
                row = {x: int(x == first) for x in pairs}
                for _ in range(many):
                    row = {y: sum(row[x] * step[x, y] for x in pairs) for y in pairs}
                total += row[first]
            self.assertEqual(formula_sum(formula)[1], total % 7)
            if many < 5:
                self.assertEqual(total % 7, plain_solutions(formula))
            else:
                self.refuses(TooMany, 12, solutions, formula)

    def test_the_clauses_of_valiant(self):
        # Each variable read twice, each clause wanting one that is 1.
        for prime in (3, 5, 7, 17, 23, 31, 73, 89):
            squares = [x * x % prime for x in range(prime)]
            for k in range(3, 9):
                basis = first_basis(prime, [ones(prime, k, [0] + [1] * k)], [ones(prime, 2, [1, 0, 1])])
                self.assertIs(basis is not None, 2 ** k % prime == 1 and 2 in squares)

    def test_sizes(self):
        self.refuses(TooMany, 8, formula_web, Formula(7, 1, [(ONE, [0])] * 9))
        self.refuses(TooMany, 8, formula_sum, Formula(7, 60, [(ONE, [0])] * 9))
        self.assertEqual(len(formula_web(Formula(7, 1, [(ONE, [0])] * 8)).ties), 8)
        self.refuses(TooMany, 60, formula_web, Formula(7, 60, [(ONE, [0])]))
        self.assertEqual(len(formula_web(Formula(7, 59, [(ONE, [0])])).rules), 60)
        eight = Rule(7, [1] * 256)
        wide = [(eight, [(8 * k + j) % 30 for j in range(8)]) for k in range(26)]
        self.refuses(TooMany, 200, formula_web, Formula(7, 30, wide))
        self.refuses(TooMany, 200, formula_sum, Formula(7, 30, wide))
        self.refuses(TooMany, 60, formula_web, Formula(7, 35, wide))
        self.assertEqual(len(formula_web(Formula(7, 30, wide[:25])).ties), 200)
