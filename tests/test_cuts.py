from itertools import combinations

from formhelpers import some_even_rule, some_formed_rule
from helpers import ODD_THINGS, Case, brute_sum, chance_of, grid_web, some_rule, some_web, swept_sum
from test_lines import CROSSED, FLAT
from test_shares import bad_lots

from onebasis.bars import bar_of
from onebasis.cuts import cut_sum, least_cut
from onebasis.errors import BadNumber, BadTies, BadWeb, NoForm, NotFlat, TooMany
from onebasis.rules import Rule
from onebasis.shares import pinned
from onebasis.webs import Web, is_flat


def some_formed_web(chance, prime, places, ties, most_outer=2):
    """A made-up web of rules with forms, flat or not."""
    web = some_web(chance, prime, places, ties, most_outer)
    make = chance.choice((some_formed_rule, some_even_rule))
    return Web(prime, [make(chance, prime, rule.legs) for rule in web.rules], web.ties, web.outer)


def twice_crossed(chance, prime, pairs):
    """Pairs of places, each with three ties that cross."""
    ties = [((2 * n, k), (2 * n + 1, k)) for n in range(pairs) for k in range(3)]
    return Web(prime, [some_even_rule(chance, prime, 3) for _ in range(2 * pairs)], ties, [])


class Cuts(Case):
    def test_by_hand(self):
        self.same(least_cut(CROSSED, 1), [((0, 0), (1, 0))])
        self.same(least_cut(FLAT, 0), [])
        self.assertIsNone(least_cut(CROSSED, 0))
        self.assertEqual(cut_sum(CROSSED, [CROSSED.ties[1]]), Rule(5, brute_sum(CROSSED)))
        self.assertEqual(cut_sum(FLAT, []), Rule(5, [2]))

    def test_cuts_of_few_ties(self):
        chance = chance_of(470)
        found = {k: 0 for k in range(7)}
        refused = 0
        for number in range(80):
            web = some_formed_web(chance, 7, chance.randrange(1, 5), chance.randrange(2, 8))
            for many in range(min(6, len(web.ties)) + 1):
                lots = list(combinations(web.ties, many))
                for ties in chance.sample(lots, min(3, len(lots))):
                    if is_flat(pinned(web, list(ties), (0,) * many)):
                        self.assertEqual(list(cut_sum(web, ties).table), brute_sum(web))
                        found[many] += 1
                    else:
                        self.refuses(NotFlat, None, cut_sum, web, list(ties))
                        refused += 1
        self.assertGreater(min(found.values()), 12)
        self.assertGreater(refused, 50)

    def test_least_cut_against_all_lots(self):
        chance = chance_of(471)
        found = {}
        for number in range(200):
            web = some_web(chance, 3, chance.randrange(1, 4), chance.randrange(9), 2)
            wanted = None
            for many in range(4):
                lots = [list(ties) for ties in combinations(web.ties, many)]
                cuts = [ties for ties in lots if is_flat(pinned(web, ties, (0,) * many))]
                if cuts:
                    wanted = min(cuts)
                    break
            for most in range(4):
                told = wanted if wanted is not None and len(wanted) <= most else None
                self.same(least_cut(web, most), told)
            many = None if wanted is None else len(wanted)
            found[many] = found.get(many, 0) + 1
            bar = bar_of(web)
            if wanted and all(leg[0] < len(web.rules) for x in list(bar[0]) + list(bar[1:]) for leg in x):
                self.assertTrue(set(wanted) & set(list(bar[0]) + list(bar[1:])))
        self.assertGreater(min(found.get(many, 0) for many in (0, 1, 2)), 8)

    def test_many_ties(self):
        chance = chance_of(472)
        web = grid_web(chance, 97, 3, 8, 2, some_even_rule)
        crossed = list(web.ties)
        # Two ties of places far apart exchange an end each.
        (a, b), (c, d) = crossed[0], crossed[30]
        crossed[0], crossed[30] = (a, d), (c, b)
        told = Web(97, web.rules, crossed, web.outer)
        self.assertFalse(is_flat(told))
        cut = sorted([tuple(sorted((a, d))), tuple(sorted((c, b)))])
        self.assertEqual(list(cut_sum(told, cut).table), swept_sum(told))
        self.assertTrue(any(swept_sum(told)))

    def test_refused(self):
        chance = chance_of(473)
        none = Rule(5, [1] * 8)
        for thing in ODD_THINGS:
            self.refuses(BadWeb, None, cut_sum, thing, None)
            self.refuses(BadWeb, None, least_cut, thing, None)
        for thing in bad_lots(FLAT):
            self.refuses(BadTies, None, cut_sum, FLAT, thing)
        self.refuses(NotFlat, None, cut_sum, CROSSED, [])
        self.refuses(NotFlat, None, cut_sum, Web(5, [none, none], CROSSED.ties, []), [])
        self.refuses(NoForm, 0, cut_sum, Web(5, [none, none], CROSSED.ties, []), CROSSED.ties)
        web = twice_crossed(chance, 7, 3)
        self.assertEqual(list(cut_sum(web, web.ties[::3]).table), brute_sum(web))
        six = [tie for k, tie in enumerate(web.ties) if k % 3]
        self.assertEqual(list(cut_sum(web, six).table), brute_sum(web))
        self.refuses(NotFlat, None, cut_sum, web, web.ties[:6])
        self.refuses(TooMany, 6, cut_sum, web, web.ties[:7])
        self.refuses(NotFlat, None, cut_sum, twice_crossed(chance, 7, 4), web.ties[:7])
        unformed = Web(7, [Rule(7, [1] * 8)] * 6, web.ties, [])
        self.refuses(NoForm, 0, cut_sum, unformed, web.ties[:7])
        for thing in ODD_THINGS + [4]:
            self.refuses(BadNumber, "most", least_cut, FLAT, thing)
        wide = twice_crossed(chance, 7, 10)
        self.assertIsNone(least_cut(wide, 3))
        more = twice_crossed(chance, 7, 11)
        self.refuses(TooMany, 30, least_cut, more, 0)
        self.refuses(BadNumber, "most", least_cut, more, 4)
        self.assertEqual(least_cut(Web(7, [some_rule(chance, 7, 1)], [], [(0, 0)]), 3), [])
