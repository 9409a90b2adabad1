from itertools import combinations, permutations

from formhelpers import some_even_rule, some_formed_rule
from helpers import ODD_THINGS, Case, brute_sum, chance_of, grid_web, some_flat_outer_web, some_rule, some_web, swept_sum
from test_lines import CROSSED, FLAT

from onebasis.errors import BadNumber, BadWeb, NoEdge, TooMany
from onebasis.foundforms import has_form
from onebasis.lumps import edge_of, lumped
from onebasis.rules import Rule
from onebasis.webs import Web, is_flat


def plain_edge(web, places):
    """The edge by trying all sequences of the legs that stand in no tie among the places."""
    now = {place: k for k, place in enumerate(places)}
    ties = [tie for tie in web.ties if tie[0][0] in now and tie[1][0] in now]
    tied = [leg for tie in ties for leg in tie]
    legs = [(p, k) for p in places for k in range(web.rules[p].legs) if (p, k) not in tied]
    told = [((now[p], k), (now[q], j)) for (p, k), (q, j) in ties]
    found = []
    for more in permutations(legs[1:]):
        edge = legs[:1] + list(more)
        if is_flat(Web(web.prime, [web.rules[p] for p in places], told, [(now[p], k) for p, k in edge])):
            found.append(edge)
    return found


def led_together(web, places):
    reached = {places[0]}
    for _ in places:
        for one, other in web.ties:
            if one[0] in places and other[0] in places and {one[0], other[0]} & reached:
                reached |= {one[0], other[0]}
    return reached == set(places)


class Lumps(Case):
    def test_by_hand(self):
        self.same(edge_of(FLAT, [0]), [(0, 0), (0, 1), (0, 2)])
        self.same(edge_of(FLAT, (0, 1)), [])
        self.assertIsNone(edge_of(CROSSED, [0, 1]))
        told = lumped(FLAT, [0])
        self.assertEqual(told, Web(5, FLAT.rules, [((0, 0), (1, 0)), ((0, 2), (1, 1)), ((0, 1), (1, 2))], []))
        self.assertEqual(lumped(FLAT, [0, 1]), Web(5, [Rule(5, [2])], [], []))
        self.refuses(NoEdge, None, lumped, CROSSED, [0, 1])
        row = Web(5, [FLAT.rules[0]] * 2, [((0, 1), (1, 0))], [(0, 0), (0, 2), (1, 2), (1, 1)])
        self.same(edge_of(row, [0, 1]), [(0, 0), (1, 1), (1, 2), (0, 2)])
        self.assertEqual(lumped(row, [0, 1]).outer, ((0, 0), (0, 3), (0, 2), (0, 1)))

    def test_edges_and_sums(self):
        chance = chance_of(450)
        met = {"none": 0, "edge": 0, "flat": 0, "crossed": 0}
        for number in range(120):
            if number % 3:
                web = some_flat_outer_web(chance, 5, chance.randrange(2, 5), chance.randrange(7), some_formed_rule)
            else:
                web = some_web(chance, 5, chance.randrange(2, 5), chance.randrange(7))
            for many in range(1, len(web.rules) + 1):
                for places in combinations(range(len(web.rules)), many):
                    places = list(places)
                    if not led_together(web, places):
                        self.refuses(BadNumber, "places", edge_of, web, places)
                        self.refuses(BadNumber, "places", lumped, web, places)
                        continue
                    inner = [t for t in web.ties if t[0][0] in places and t[1][0] in places]
                    if sum(web.rules[p].legs for p in places) - 2 * len(inner) > 6:
                        continue
                    edges = plain_edge(web, places)
                    self.assertLessEqual(len(edges), 1)
                    self.same(edge_of(web, places), edges[0] if edges else None)
                    if not edges:
                        self.refuses(NoEdge, None, lumped, web, places)
                        met["none"] += 1
                        continue
                    told = lumped(web, places)
                    self.fits(web, places, edges[0], told)
                    met["edge"] += 1
                    met["flat" if is_flat(web) else "crossed"] += 1
        self.assertGreater(min(met.values()), 20)

    def fits(self, web, places, edge, told):
        """What lumped returns has the places, the legs, the sum and the flatness of the web."""
        others = [p for p in range(len(web.rules)) if p not in places]
        now = {leg: (len(others), k) for k, leg in enumerate(edge)}
        now.update({(p, k): (at, k) for at, p in enumerate(others) for k in range(web.rules[p].legs)})
        self.assertEqual(told.rules[:-1], tuple(web.rules[p] for p in others))
        self.assertEqual(told.outer, tuple(now[leg] for leg in web.outer))
        ties = [tuple(sorted((now[one], now[other]))) for one, other in web.ties if one in now and other in now]
        self.assertEqual(told.ties, tuple(sorted(ties)))
        back = {p: k for k, p in enumerate(places)}
        inner = [((back[p], k), (back[q], j)) for (p, k), (q, j) in web.ties if p in back and q in back
                 and (p, k) not in edge and (q, j) not in edge]
        alone = Web(web.prime, [web.rules[p] for p in places], inner, [(back[p], k) for p, k in edge])
        self.assertEqual(list(told.rules[-1].table), brute_sum(alone))
        self.assertEqual(brute_sum(told), brute_sum(web))
        self.assertIs(is_flat(told), is_flat(web))
        if all(has_form(web.rules[p]) for p in places):
            self.assertTrue(has_form(told.rules[-1]))

    def test_many_ties(self):
        chance = chance_of(451)
        web = grid_web(chance, 97, 3, 8, 5, some_even_rule)
        # The legs to the last column, and the outer legs of the others.
        places = list(range(21))
        told = lumped(web, places)
        self.assertEqual(len(told.rules), 4)
        self.assertEqual(list(swept_sum(told)), swept_sum(web))
        unformed = grid_web(chance, 97, 3, 8, 5, some_rule)
        self.assertFalse(has_form(unformed.rules[0]))
        self.refuses(TooMany, 12, lumped, unformed, places)
        self.assertEqual(edge_of(unformed, places), edge_of(web, places))
        told = lumped(unformed, [0, 1, 3, 4])
        self.assertEqual(swept_sum(told), swept_sum(unformed))

    def test_refused(self):
        for call in (edge_of, lumped):
            for thing in ODD_THINGS:
                self.refuses(BadWeb, None, call, thing, None)
                self.refuses(BadNumber, "places", call, FLAT, thing)
            for thing in ([1, 0], [0, 0], [0, 2], [-1], [0, True], [0.0], {0: 1}, "0"):
                self.refuses(BadNumber, "places", call, FLAT, thing)
            eight = Rule(5, [1] * 256)
            wide = Web(5, [eight, Rule(5, [1] * 8)], [((0, 0), (1, 0))] + [((0, k), (0, k + 1)) for k in (1, 3, 5)],
                       [(0, 7), (1, 1), (1, 2)])
            self.assertEqual(len(edge_of(wide, [0, 1])), 3)
            ties = [((0, k), (2, k)) for k in range(1, 8)]
            wide = Web(5, [eight, Rule(5, [1] * 8), eight], ties + [((0, 0), (1, 0))], [(1, 1), (1, 2), (2, 0)])
            self.refuses(TooMany, 8, call, wide, [0, 1])
            self.assertEqual(len(edge_of(wide, [0])), 8)
        crossed = Web(5, [eight, eight], [((0, k), (1, k)) for k in range(8)], [])
        self.refuses(NoEdge, None, lumped, crossed, [0, 1])
        straight = Web(5, [eight, eight], [((0, k), (1, 7 - k)) for k in range(8)], [])
        self.assertEqual(lumped(straight, [0, 1]).rules, (Rule(5, [256 % 5]),))
