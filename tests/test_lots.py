from itertools import product

from formhelpers import plain_identity, some_formed_rule
from helpers import ODD_THINGS, Case, at, chance_of, some_rule

from onebasis.alike import all_bases
from onebasis.bases import Basis, changed, inverse, other_side
from onebasis.errors import BadLot, BadRule
from onebasis.foundforms import has_form
from onebasis.identities import least_broken
from onebasis.lots import bars, bases_of, first_basis, is_bars
from onebasis.rules import Rule, ones


def plainly_changed(rule, rows):
    """The rule changed by a basis with these rows, by sums over all bits."""
    every = list(product((0, 1), repeat=rule.legs))
    table = []
    for b in every:
        total = 0
        for a in every:
            number = at(rule, a)
            for x, y in zip(a, b):
                number *= rows[x][y]
            total += number
        table.append(total % rule.prime)
    return Rule(rule.prime, table)


def all_rows(prime):
    """The rows of all bases of a small prime."""
    every = product(range(prime), repeat=4)
    return [((a, b), (c, d)) for a, b, c, d in every if (a * d - b * c) % prime]


def other_rows(prime, rows):
    """The rows of the other side, found by trying all."""
    (a, b), (c, d) = rows
    for (e, f), (g, h) in all_rows(prime):
        # The inverse has the rows of the other side as columns, so each row with each row makes 1 or 0.
        if ((a * e + b * f) % prime, (a * g + b * h) % prime) == (1, 0):
            if ((c * e + d * f) % prime, (c * g + d * h) % prime) == (0, 1):
                return ((e, f), (g, h))
    return None


def some_lot(chance, prime):
    """A made-up lot: rules with forms changed back by one basis, and sometimes a rule of any kind."""
    a, b, c, d = chance.choice([(1, 1, 0, 1), (1, 2, 1, 1), (1, 1, 1, prime - 1), (0, 1, 1, 1)])
    basis = Basis(prime, ((a, b), (c, d)))
    make = [changed(some_formed_rule(chance, prime, chance.randrange(1, 4)), inverse(basis)) for _ in range(2)]
    other = inverse(other_side(basis))
    more = [changed(some_formed_rule(chance, prime, chance.randrange(1, 4)), other) for _ in range(2)]
    if chance.randrange(2):
        more.append(some_rule(chance, prime, 2))
    return make[:chance.randrange(3)], more


class Lots(Case):
    def test_against_all_bases(self):
        chance = chance_of(530)
        found = {True: 0, False: 0}
        for number in range(40):
            prime = (3, 5)[number % 2]
            lefts, rights = some_lot(chance, prime)
            if number % 5 == 0:
                lefts.append(some_rule(chance, prime, 3))
            good = [basis for basis in all_bases(prime)
                    if all(has_form(plainly_changed(rule, basis.rows)) for rule in lefts)
                    and all(has_form(plainly_changed(rule, other_rows(prime, basis.rows))) for rule in rights)]
            told = bases_of(prime, lefts, tuple(rights))
            self.assertIs(type(told), list)
            self.assertEqual(told, good)
            self.assertEqual(first_basis(prime, tuple(lefts), rights), good[0] if good else None)
            self.assertIs(bars(prime, lefts, rights) is None, bool(good))
            found[bool(good)] += 1
        self.assertGreater(min(found.values()), 8)

    def test_plain_bases_tell_all(self):
        chance = chance_of(531)
        found = {True: 0, False: 0}
        for _ in range(24):
            lefts, rights = some_lot(chance, 3)
            any_good = any(all(has_form(plainly_changed(rule, rows)) for rule in lefts)
                           and all(has_form(plainly_changed(rule, other_rows(3, rows))) for rule in rights)
                           for rows in all_rows(3))
            self.assertIs(first_basis(3, lefts, rights) is not None, any_good)
            found[any_good] += 1
        self.assertGreater(min(found.values()), 4)

    def test_bars(self):
        chance = chance_of(532)
        met = {0: 0, 1: 0}
        for number in range(60):
            prime = (3, 5)[number % 2]
            lefts, rights = some_lot(chance, prime)
            told = bars(prime, lefts, rights)
            if told is None:
                self.assertIs(is_bars(prime, lefts, rights, []), False)
                continue
            bases = all_bases(prime)
            self.assertEqual(len(told), len(bases))
            self.assertIs(is_bars(prime, lefts, rights, told), True)
            self.assertIs(is_bars(prime, lefts, rights, tuple(told)), True)
            for basis, (side, index, pair) in zip(bases, told):
                firsts = [k for k, rule in enumerate(lefts) if not has_form(changed(rule, basis))]
                others = [k for k, rule in enumerate(rights) if not has_form(changed(rule, other_side(basis)))]
                self.assertEqual((side, index), (0, firsts[0]) if firsts else (1, others[0]))
                rule = changed(lefts[index], basis) if side == 0 else changed(rights[index], other_side(basis))
                self.same(pair, least_broken(rule))
                met[side] += 1
        self.assertGreater(min(met.values()), 5)

    def test_is_bars_of_any_value(self):
        chance = chance_of(533)
        lefts, rights = [ones(3, 3, [1, 1, 0, 2])], [some_rule(chance, 3, 2), ones(3, 2, [1, 2, 2]), ones(3, 3, [1, 0, 0, 2])]
        told = bars(3, lefts, rights)
        self.assertIsNotNone(told)
        for thing in ODD_THINGS + [told[:-1], told + told[:1], told[::-1], {k: x for k, x in enumerate(told)}]:
            self.assertIs(is_bars(3, lefts, rights, thing), False)
        side, index, (bits, legs) = told[2]
        for changed_part in (None, (side, index), (side, index, (bits, legs), 0), [side, index, (bits, legs)],
                             (bool(side), index, (bits, legs)), (2, index, (bits, legs)), (None, index, (bits, legs)),
                             (0, 1, (bits, legs)), (1, 3, (bits, legs)), (side, -1, (bits, legs)), (side, False, (bits, legs)),
                             (side, index, [bits, legs]), (side, index, (bits,)), (side, index, (list(bits), legs)),
                             (side, index, (bits + (0,), legs)), (side, index, (bits, ())), (side, index, None),
                             (side, index, (bits, list(legs))), (side, index, (bits, legs[::-1] + legs)),
                             (side, index, (bits, (7,))), (side, index, (None, legs)), (side, index, (bits, (True,)))):
            self.assertIs(is_bars(3, lefts, rights, told[:2] + [changed_part] + told[3:]), False, changed_part)

    def test_is_bars_of_any_rule_and_identity(self):
        lefts, rights = [ones(3, 3, [1, 1, 0, 2]), ones(3, 2, [1, 1, 2])], [ones(3, 3, [1, 0, 0, 2])]
        told = bars(3, lefts, rights)
        self.assertIsNotNone(told)
        found = {True: 0, False: 0}
        for at_basis, basis in enumerate(all_bases(3)):
            for side, rules, by in ((0, lefts, basis), (1, rights, other_side(basis))):
                for index, rule in enumerate(rules):
                    fresh = changed(rule, by)
                    for bits in product((0, 1), repeat=rule.legs):
                        for legs in ((0,), (1,), (0, 1), (0, 1, 2)[:rule.legs]):
                            paper = told[:at_basis] + [(side, index, (bits, legs))] + told[at_basis + 1:]
                            wanted = plain_identity(fresh, bits, legs) != 0
                            self.assertIs(is_bars(3, lefts, rights, paper), wanted)
                            found[wanted] += 1
        self.assertGreater(min(found.values()), 20)

    def test_edges(self):
        for prime in (3, 97):
            self.assertEqual(bases_of(prime, [], []), all_bases(prime))
            self.assertEqual(first_basis(prime, [], []), all_bases(prime)[0])
            self.assertIsNone(bars(prime, [], []))
            self.assertIs(is_bars(prime, [], [], [None] * len(all_bases(prime))), False)
        zeros = [Rule(97, [0] * 4)] * 60
        self.assertEqual(len(bases_of(97, zeros, zeros)), 97 * 98 // 2)
        self.assertEqual(first_basis(3, [ones(3, 1, [1, 1])], [ones(3, 1, [1, 0])]),
                         bases_of(3, [ones(3, 1, [1, 1])], [ones(3, 1, [1, 0])])[0])

    def test_refused(self):
        rule = Rule(3, [1, 2])
        for call in (bases_of, first_basis, bars):
            for thing in ODD_THINGS + [2, 9, 99]:
                self.refuses(BadRule, "prime", call, thing, None, None)
            for thing in (None, 5, [None], [rule, 1], [Rule(5, [1])], [rule] * 61, {0: rule}):
                self.refuses(BadLot, "lefts", call, 3, thing, None)
                self.refuses(BadLot, "rights", call, 3, [], thing)
            call(3, [rule] * 60, [rule] * 60)
        self.refuses(BadRule, "prime", is_bars, 4, None, None, None)
        self.refuses(BadLot, "lefts", is_bars, 3, [Rule(5, [1])], None, None)
        self.refuses(BadLot, "rights", is_bars, 3, [], [None], None)
