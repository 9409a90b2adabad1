from helpers import ODD_THINGS, Case, brute_sum, chance_of, some_web
from test_sided import some_basis
from test_units import PRIMES

from onebasis.alike import all_bases, is_alike
from onebasis.bases import Basis, changed, other_side
from onebasis.errors import BadBasis, BadWeb
from onebasis.foundforms import has_form
from onebasis.rules import Rule, ones, scaled
from onebasis.tiebases import all_changed, keeps_ties, tie_bases
from onebasis.webs import Web


def all_of(prime):
    """All bases of a prime."""
    every = range(prime)
    rows = [((a, b), (c, d)) for a in every for b in every for c in every for d in every if (a * d - b * c) % prime]
    return [Basis(prime, told) for told in rows]


class TieBases(Case):
    def test_keeps_ties(self):
        for prime in (3, 5, 7):
            tie = Rule(prime, [1, 0, 0, 1])
            kept = 0
            for basis in all_of(prime):
                # A rule of a tie changed by the rows as columns is a number times it exactly if the ties are kept.
                turned_rows = Basis(prime, list(zip(*basis.rows)))
                wanted = changed(tie, turned_rows)
                told = keeps_ties(basis)
                self.assertIs(told, wanted == scaled(tie, wanted.table[0]) and wanted.table[0] != 0)
                kept += told
            self.assertGreater(kept, 7)
        self.assertIs(keeps_ties(Basis(5, ((1, 2), (3, 2)))), False)
        self.assertIs(keeps_ties(Basis(7, ((1, 2), (5, 1)))), True)

    def test_all_changed(self):
        chance = chance_of(550)
        met = {"ties": 0, "outer": 0, "number": 0}
        for number in range(80):
            prime = (3, 5, 7)[number % 3]
            basis = chance.choice([basis for basis in all_of(prime) if keeps_ties(basis)])
            web = some_web(chance, prime, chance.randrange(1, 5), chance.randrange(7))
            told = all_changed(web, basis)
            self.assertEqual((told.ties, told.outer), (web.ties, web.outer))
            self.assertEqual(told.rules, tuple(changed(rule, basis) for rule in web.rules))
            share = sum(x * x for x in basis.rows[0]) % prime
            wanted = scaled(changed(Rule(prime, brute_sum(web)), basis), share ** len(web.ties) % prime)
            self.assertEqual(Rule(prime, brute_sum(told)), wanted)
            if any(wanted.table):
                met["ties"] += len(web.ties) > 2
                met["outer"] += len(web.outer) > 0
                met["number"] += share ** len(web.ties) % prime != 1
        self.assertGreater(min(met.values()), 10)

    def test_how_many_and_which(self):
        for prime in PRIMES:
            told = tie_bases(prime)
            self.assertEqual(len(told), (prime + 1) // 2)
            self.assertEqual(told, [basis for basis in all_bases(prime) if basis in told])
        for prime in (3, 5, 7, 13):
            tie = ones(prime, 2, [1, 0, 1])
            wanted = [basis for basis in all_bases(prime) if has_form(changed(tie, other_side(basis)))]
            self.assertEqual(tie_bases(prime), wanted)

    def test_alike_to_bases_that_keep_ties(self):
        for prime in (3, 5, 7, 13):
            every = [basis for basis in all_of(prime) if keeps_ties(basis)] if prime < 13 else None
            without = []
            for basis in tie_bases(prime):
                if every is None:
                    # Columns times numbers, in either sequence, are all bases that are alike.
                    (a, b), (c, d) = basis.rows
                    alike = [Basis(prime, ((a, b * n % prime), (c, d * n % prime))) for n in range(1, prime)]
                else:
                    alike = [other for other in every if is_alike(basis, other)]
                if not any(keeps_ties(other) for other in alike):
                    without.append(basis)
            roots = [t for t in range(prime) if (1 + t * t) % prime == 0]
            self.assertEqual(without, [Basis(prime, ((1, 1), roots))] if roots else [])

    def test_refused(self):
        web = Web(5, [Rule(5, [1])], [], [])
        basis = Basis(5, ((1, 0), (0, 1)))
        for thing in ODD_THINGS:
            self.refuses(BadBasis, None, keeps_ties, thing)
            self.refuses(BadBasis, "prime", tie_bases, thing)
            self.refuses(BadWeb, None, all_changed, thing, None)
            self.refuses(BadBasis, None, all_changed, web, thing)
        for thing in (2, 9, 101):
            self.refuses(BadBasis, "prime", tie_bases, thing)
        self.refuses(BadBasis, "prime", all_changed, web, Basis(7, ((1, 1), (0, 1))))
        self.refuses(BadBasis, "ties", all_changed, web, Basis(5, ((1, 1), (0, 1))))
        self.refuses(BadBasis, "ties", all_changed, web, Basis(5, ((1, 0), (0, 3))))
        self.assertEqual(all_changed(web, basis), web)
        chance = chance_of(551)
        for _ in range(20):
            other = some_basis(chance, 5)
            if not keeps_ties(other):
                self.refuses(BadBasis, "ties", all_changed, Web(5, [], [], []), other)
