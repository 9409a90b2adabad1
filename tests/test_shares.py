from itertools import combinations, product

from formhelpers import some_even_rule, some_formed_rule
from helpers import (ODD_THINGS, Case, brute_sum, chance_of, grid_web, some_flat_outer_web, some_flat_web, some_web,
                     swept_sum)
from test_limits import pairs_web
from test_lines import CROSSED, FLAT

from onebasis.errors import BadBits, BadTies, BadWeb, NoForm, NotFlat
from onebasis.foundforms import has_form
from onebasis.rules import Rule
from onebasis.shares import pinned, share, shares
from onebasis.webs import Web, is_flat


def bad_lots(web):
    """What are no ascending lists of unlike ties of a web with three ties."""
    first, second, third = web.ties
    return ODD_THINGS[:4] + [5, "ties", {first: 1}, [None], [second, first], [first, first], [list(first)], (first, 5),
                             [(first[1], first[0])], [((0, False), first[1])], [((0, 0), (0, 1))], first]


class Shares(Case):
    def test_by_hand(self):
        self.same(shares(FLAT), [(2, 0), (2, 0), (2, 0)])
        told = pinned(FLAT, [FLAT.ties[0]], (1,))
        two = Rule(5, [1, 0, 0, 3])
        self.assertEqual(told, Web(5, [two, two], [((0, 0), (1, 1)), ((0, 1), (1, 0))], []))
        self.assertEqual(share(FLAT, [FLAT.ties[0]], (1,)), Rule(5, [0]))
        self.assertEqual(share(FLAT, [], ()), Rule(5, [2]))
        self.assertEqual(pinned(FLAT, (), ()), FLAT)
        loop = Web(7, [Rule(7, [1, 2, 3, 4])], [((0, 0), (0, 1))], [])
        self.assertEqual(pinned(loop, loop.ties, (1,)), Web(7, [Rule(7, [4])], [], []))

    def test_pinned_against_all_bits(self):
        chance = chance_of(460)
        for number in range(60):
            web = some_web(chance, 7, chance.randrange(1, 5), chance.randrange(6))
            for many in range(min(3, len(web.ties)) + 1):
                lots = list(combinations(web.ties, many))
                for ties in chance.sample(lots, min(3, len(lots))):
                    for bits in product((0, 1), repeat=many):
                        told = pinned(web, list(ties), bits)
                        self.assertEqual(brute_sum(told), brute_sum(web, dict(zip(ties, bits))))
                        self.assertEqual(len(told.ties), len(web.ties) - many)
                        gone = [leg for tie in ties for leg in tie]
                        moved = [(p, k - sum((p, j) in gone for j in range(k))) for p, k in web.outer]
                        self.assertEqual(told.outer, tuple(moved))

    def test_share(self):
        chance = chance_of(461)
        met = 0
        for number in range(50):
            make = (some_formed_rule, some_even_rule)[number % 2]
            web = some_flat_outer_web(chance, 7, chance.randrange(1, 5), chance.randrange(2, 8), make)
            ties = sorted(chance.sample(web.ties, min(len(web.ties), chance.randrange(4))))
            total = [0] * (1 << len(web.outer))
            for bits in product((0, 1), repeat=len(ties)):
                told = share(web, ties, bits)
                self.assertIs(type(told), Rule)
                self.assertEqual(list(told.table), brute_sum(web, dict(zip(ties, bits))))
                rest = pinned(web, tuple(ties), bits)
                self.assertTrue(is_flat(rest) and all(has_form(rule) for rule in rest.rules))
                total = [(x + y) % 7 for x, y in zip(total, told.table)]
            self.assertEqual(total, brute_sum(web))
            met += any(total)
        self.assertGreater(met, 15)

    def test_shares(self):
        chance = chance_of(462)
        met = set()
        for number in range(60):
            make = (some_formed_rule, some_even_rule)[number % 2]
            web = some_flat_web(chance, (3, 97)[number % 2], chance.randrange(1, 6), chance.randrange(9), make)
            told = shares(web)
            self.same(told, [tuple(brute_sum(web, {tie: bit})[0] for bit in (0, 1)) for tie in web.ties])
            met |= {x for pair in told for x in pair}
        self.assertGreater(len(met), 20)

    def test_many_ties(self):
        chance = chance_of(463)
        web = grid_web(chance, 97, 3, 8, 0, some_even_rule)
        whole = swept_sum(web)[0]
        self.assertNotEqual(whole, 0)
        told = shares(web)
        self.assertEqual({(x + y) % 97 for x, y in told}, {whole})
        for k in range(0, len(web.ties), 5):
            for bit in (0, 1):
                self.assertEqual(swept_sum(pinned(web, [web.ties[k]], (bit,))), [told[k][bit]])
                self.assertEqual(share(web, [web.ties[k]], (bit,)), Rule(97, [told[k][bit]]))
        wide = pairs_web(7, Rule(7, [2] + [0] * 255))
        number = 2 ** 60 % 7
        self.assertEqual(shares(wide), [(number, 0)] * 200)
        self.assertEqual(share(wide, wide.ties[:7], (0,) * 7), Rule(7, [number]))

    def test_refused(self):
        none = Rule(5, [1] * 8)
        unformed = Web(5, [FLAT.rules[0], none], FLAT.ties, [])
        for thing in ODD_THINGS:
            self.refuses(BadWeb, None, pinned, thing, None, None)
            self.refuses(BadWeb, None, share, thing, None, None)
            self.refuses(BadWeb, None, shares, thing)
        for thing in bad_lots(FLAT):
            self.refuses(BadTies, None, pinned, FLAT, thing, None)
            self.refuses(BadTies, None, share, CROSSED, thing, None)
        for thing in (None, [0], (0,), (0, 0, 0), (0, 2), (0, True), "00", 5):
            self.refuses(BadBits, None, pinned, FLAT, FLAT.ties[:2], thing)
            self.refuses(BadBits, None, share, CROSSED, list(CROSSED.ties[:2]), thing)
        # The web itself is to be flat, and its rules are to have forms, whatever is left.
        self.refuses(NotFlat, None, share, CROSSED, CROSSED.ties, (0, 0, 0))
        self.refuses(NotFlat, None, share, Web(5, [none, none], CROSSED.ties, []), [], ())
        self.refuses(NoForm, 1, share, unformed, FLAT.ties, (0, 0, 0))
        self.refuses(NoForm, 1, shares, unformed)
        self.refuses(NotFlat, None, shares, Web(5, [none, none], CROSSED.ties, []))
        self.refuses(BadWeb, "outer", shares, Web(5, [none], [], [(0, 1), (0, 0), (0, 2)]))
        self.same(shares(Web(5, [], [], [])), [])
