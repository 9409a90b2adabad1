from itertools import combinations, product

from classhelpers import some_affine_rule
from helpers import ODD_THINGS, Case, at, brute_sum, chance_of, grid_web, some_web, swept_sum
from test_affinesums import some_wide_rule, with_rules
from test_limits import pairs_web

from onebasis.errors import BadWeb, NotAffine
from onebasis.rules import Rule, ones
from onebasis.webs import Web
from onebasis.zeropapers import is_zero_paper, zero_paper

LOOP = Web(5, [Rule(5, [1, 1, 1, 4])], [((0, 0), (0, 1))], [])


def terms(web):
    """The dict from bits on the ties to the product of what the rules are worth."""
    found = {}
    for bits in product((0, 1), repeat=len(web.ties)):
        here = {leg: bit for tie, bit in zip(web.ties, bits) for leg in tie}
        number = 1
        for place, rule in enumerate(web.rules):
            number *= at(rule, [here[place, k] for k in range(rule.legs)])
        found[bits] = number % web.prime
    return found


def is_paper(web, paper):
    """Whether a word with a place, or with ties, is a paper by the words of point 64."""
    word, told = paper
    if word == "rule":
        return not any(web.rules[told].table)
    if word == "signs":
        every = terms(web)
        return all((every[bits] + every[tuple(bit ^ (k in told) for k, bit in enumerate(bits))]) % web.prime == 0
                   for bits in every)
    total = 0
    for place, rule in enumerate(web.rules):
        legs = [leg[1] for k in told for leg in web.ties[k] if leg[0] == place]
        sums = {sum(bits[leg] for leg in legs) % 2 for bits in product((0, 1), repeat=rule.legs) if at(rule, bits)}
        if len(sums) != 1:
            return False
        total += min(sums)
    return total % 2 == 1


class ZeroPapers(Case):
    def test_against_all_bits(self):
        chance = chance_of(643)
        met = {"rule": 0, "odd": 0, "signs": 0, None: 0, ("odd", True): 0, ("signs", True): 0, ("odd", False): 0,
               ("signs", False): 0, ("rule", True): 0, ("rule", False): 0}
        for number in range(700):
            web = some_web(chance, (3, 5, 7, 13)[number % 4], chance.randrange(5), chance.randrange(7), 0)
            if web.outer:
                continue
            web = with_rules(chance, web, (some_affine_rule, some_wide_rule)[number // 4 % 2])
            if number % 19 == 0 and web.rules:
                rules = [Rule(web.prime, [0] * len(web.rules[0].table))] + list(web.rules[1:])
                web = Web(web.prime, rules, web.ties, [])
            paper = zero_paper(web)
            self.assertEqual(paper is not None, brute_sum(web) == [0])
            met[paper and paper[0]] += 1
            if paper is not None:
                self.assertIs(type(paper), tuple)
                self.assertTrue(is_paper(web, paper))
                self.assertIs(is_zero_paper(web, paper), True)
            papers = [("rule", place) for place in range(len(web.rules))]
            for many in range(len(web.ties) + 1 if len(web.ties) < 5 else 0):
                for ties in combinations(range(len(web.ties)), many):
                    papers += [("odd", ties), ("signs", ties)]
            for paper in papers:
                wanted = is_paper(web, paper)
                self.assertIs(is_zero_paper(web, paper), wanted, paper)
                met[paper[0], wanted] += 1
        self.assertGreater(min(met.values()), 9)

    def test_long_webs(self):
        chance = chance_of(644)
        found = {}
        for number in range(40):
            web = grid_web(chance, (5, 7)[number % 2], 3, 8, 0, (some_wide_rule, some_affine_rule)[number // 2 % 2])
            paper = zero_paper(web)
            self.assertEqual(paper is not None, swept_sum(web) == [0])
            if paper is not None:
                self.assertIs(is_zero_paper(web, paper), True)
                if paper[0] == "signs":
                    self.assertIs(is_zero_paper(web, ("signs", paper[1][:-1])), False)
                    self.assertIs(is_zero_paper(web, ("odd", paper[1])), False)
            found[paper and paper[0]] = found.get(paper and paper[0], 0) + 1
        self.assertTrue({None, "odd", "signs"} <= set(found))

    def test_limits(self):
        for prime in (3, 5):
            self.assertIsNone(zero_paper(pairs_web(prime, Rule(prime, [1] * 256))))
            # Legs of one bit each, unlike at the two places of a pair.
            some, other = ones(prime, 8, [1] + [0] * 8), ones(prime, 8, [0] * 8 + [1])
            plain = pairs_web(prime, some)
            web = Web(prime, [some, other] * 25 + list(plain.rules[50:]), plain.ties, [])
            paper = zero_paper(web)
            self.assertEqual(paper[0], "odd")
            self.assertIs(is_zero_paper(web, paper), True)
            self.assertIs(is_zero_paper(web, ("odd", (199,))), True)
            self.assertIs(is_zero_paper(web, ("odd", (0, 199))), False)
            self.assertIs(is_zero_paper(web, ("signs", ())), True)
            empty = Web(prime, [], [], [])
            self.assertIsNone(zero_paper(empty))
            self.assertIs(is_zero_paper(empty, ("odd", ())), False)
            self.assertIs(is_zero_paper(empty, ("signs", ())), False)
            web = Web(prime, [Rule(prime, [1])] * 59 + [Rule(prime, [0])], [], [])
            self.assertEqual(zero_paper(web), ("rule", 59))
            self.assertIs(is_zero_paper(web, ("signs", ())), True)
            self.assertIs(is_zero_paper(web, ("odd", ())), False)

    def test_bent_papers_and_any_kind(self):
        self.assertEqual(zero_paper(LOOP), ("signs", (0,)))
        for thing in ODD_THINGS + [
                ["signs", (0,)], ("signs", [0]), ("signs", (0, 0)), ("signs", (1,)), ("signs", (0, 1)), ("signs", (-1, 0)), ("signs", (-1,)), ("signs", (False,)),
                ("signs", ()), ("signs",), ("signs", (0,), 0), ("odd", (0,)), ("rule", 0), ("rule", (0,)), ("signs", 0),
                ("Signs", (0,)), (None, (0,)), (0, (0,)), ("signs", None), ("signs", (0.0,)), ([], (0,)), ("signs", (None,))]:
            self.assertIs(is_zero_paper(LOOP, thing), False, thing)
        zero = Web(3, [Rule(3, [0])] * 2, [], [])
        for place in (0, 1):
            self.assertIs(is_zero_paper(zero, ("rule", place)), True)
        for thing in (2, -1, True, 0.0, None, "0", (0,)):
            self.assertIs(is_zero_paper(zero, ("rule", thing)), False)
        # All bits 0 at the one leg of a tie, all 1 at the other.
        odd = Web(5, [Rule(5, [1, 0]), Rule(5, [0, 1])], [((0, 0), (1, 0))], [])
        for ties, wanted in (((0,), True), ((0, 1), False), ((-1, 0), False), ([0], False), ((), False)):
            self.assertIs(is_zero_paper(odd, ("odd", ties)), wanted)
        two = Web(5, [Rule(5, [1, 1, 1, 4])] * 2, [((p, 0), (p, 1)) for p in range(2)], [])
        for ties, wanted in (((0,), True), ((1,), True), ((0, 1), False), ((1, 0), False), ((), False)):
            self.assertIs(is_zero_paper(two, ("signs", ties)), wanted)

    def test_refused(self):
        for thing in ODD_THINGS:
            self.refuses(BadWeb, None, zero_paper, thing)
            self.refuses(BadWeb, None, is_zero_paper, thing, None)
        bad = Rule(7, [1, 2])
        outer = Web(7, [bad], [], [(0, 0)])
        self.refuses(BadWeb, "outer", zero_paper, outer)
        self.refuses(BadWeb, "outer", is_zero_paper, outer, ("rule", 0))
        good = Rule(7, [1, 6])
        for rules, place in (([bad, good], 0), ([good, bad], 1), ([bad, bad], 0), ([Rule(7, [0, 0]), bad], 1)):
            web = Web(7, rules, [((0, 0), (1, 0))], [])
            self.refuses(NotAffine, place, zero_paper, web)
            self.refuses(NotAffine, place, is_zero_paper, web, ("rule", 0))
