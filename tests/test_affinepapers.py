from itertools import product

from classhelpers import added, plain_unit, some_affine
from helpers import ODD_THINGS, Case, at, chance_of, some_rule

from onebasis.affine import affine_rule
from onebasis.affinepapers import is_against_affine, not_affine
from onebasis.errors import BadRule
from onebasis.rules import Rule


def is_paper(rule, paper):
    """Whether a tuple of a word and tuples of bits is a paper, by the words of point 61."""
    word, parts = paper[0], paper[1:]
    if any(at(rule, bits) == 0 for bits in parts):
        return False
    if word == "space":
        a, b, c = parts
        return at(rule, added(a, b, c)) == 0
    if word == "share":
        a, b = parts
        order = plain_unit(rule.prime)[1]
        return at(rule, a) ** order % rule.prime != at(rule, b) ** order % rule.prime
    a, b, c, d = parts
    evens = at(rule, a) * at(rule, added(a, b, c)) * at(rule, added(a, b, d)) * at(rule, added(a, c, d))
    odds = at(rule, b) * at(rule, c) * at(rule, d) * at(rule, added(b, c, d))
    return (evens - odds) % rule.prime != 0


def all_papers(legs):
    every = list(product((0, 1), repeat=legs))
    papers = [("space",) + parts for parts in product(every, repeat=3)]
    papers += [("share",) + parts for parts in product(every, repeat=2)]
    return papers + [("phase",) + parts for parts in product(every, repeat=4)]


class AffinePapers(Case):
    def test_each_paper(self):
        chance = chance_of(620)
        found = {True: 0, False: 0}
        for number in range(60):
            legs = chance.randrange(3)
            prime = (3, 5, 7, 13)[number % 4]
            rule = some_rule(chance, prime, legs)
            if number % 3 == 0:
                rule = Rule(prime, [chance.choice((0, 1, prime - 1, plain_unit(prime)[0])) for _ in range(1 << legs)])
            papers = all_papers(legs)
            good = [paper for paper in papers if is_paper(rule, paper)]
            for paper in papers:
                self.assertIs(is_against_affine(rule, paper), paper in good)
                found[paper in good] += 1
            self.assertEqual(not_affine(rule) is None, not good)
            if good:
                self.assertIn(not_affine(rule), good)
        self.assertGreater(min(found.values()), 500)

    def test_phases_of_many_ways(self):
        chance = chance_of(621)
        met = {}
        for number in range(120):
            prime = (5, 7, 13)[number % 3]
            form = some_affine(chance, prime, chance.randrange(4, 8), 0)
            if len(form.ways) < 3:
                continue
            # Where all of some three or four ways are taken the worth is turned, so all sums of two are as they were.
            some = chance.sample(range(len(form.ways)), min(len(form.ways), chance.choice((3, 3, 4))))
            table = list(affine_rule(form).table)
            for at_bits, bits in enumerate(product((0, 1), repeat=form.legs)):
                if all(bits[form.ways[k].index(1)] for k in some):
                    table[at_bits] = -table[at_bits] % prime
            rule = Rule(prime, table)
            told = not_affine(rule)
            self.assertEqual(told[0], "phase")
            self.assertTrue(is_paper(rule, told))
            self.assertIs(is_against_affine(rule, told), True)
            met[len(some)] = met.get(len(some), 0) + 1
        self.assertGreater(min(met[3], met[4]), 8)

    def test_bent_papers_and_any_kind(self):
        rule = Rule(5, [1, 1, 1, 2])
        paper = ("phase", (0, 0), (0, 1), (0, 1), (1, 0))
        self.assertIs(is_against_affine(rule, paper), True)
        told = not_affine(rule)
        self.same(told, tuple(["phase"] + [tuple(list(bits)) for bits in told[1:]]))
        self.assertIs(is_against_affine(rule, told), True)
        bent = [list(paper), paper[:4], paper + ((0, 0),), ("phase", [0, 0]) + paper[2:], ("Phase",) + paper[1:],
                ("phase", (0, 0), (0, 1), (0, 1), (1, True)), ("phase", (0, 0), (0, 1), (0, 1), (1,)),
                ("phase", (0, 0), (0, 1), (0, 1), None), ("phase", (0, 0), (0, 1), (0, 1), (1, 2)), ("space",) + paper[1:],
                ("share",) + paper[1:], ("space",), ("share",), ("phase",), (), (None,) + paper[1:], ([],) + paper[1:],
                (0,) + paper[1:], ("phase", (0, 0, 0), (0, 1), (0, 1), (1, 0)), ("phase", "00", "01", "01", "10")]
        for thing in bent + ODD_THINGS:
            self.assertIs(is_against_affine(rule, thing), False, thing)
        for word, many in (("space", 3), ("share", 2)):
            for many_parts in (1, 2, 3, 4):
                if many_parts != many:
                    self.assertIs(is_against_affine(Rule(5, [1, 3, 1, 0]), (word,) + ((0, 0), (0, 1), (1, 0), (0, 0))[:many_parts]),
                                  False)
        self.assertIs(is_against_affine(Rule(5, [1, 3, 1, 0]), ("space", (0, 0), (0, 1), (1, 0))), True)
        self.assertIs(is_against_affine(Rule(7, [1, 3, 1, 0]), ("share", (0, 0), (0, 1))), True)
        # In the field of 5 each number other than 0 is a power of the unit.
        self.assertIs(is_against_affine(Rule(5, [1, 3, 1, 0]), ("share", (0, 0), (0, 1))), False)
        self.assertIs(is_against_affine(Rule(5, [1, 3, 1, 0]), ("share", (0, 0), (1, 1))), False)

    def test_refused(self):
        for thing in ODD_THINGS:
            self.refuses(BadRule, None, not_affine, thing)
            self.refuses(BadRule, None, is_against_affine, thing, None)
