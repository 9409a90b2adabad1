from itertools import product

from formhelpers import plain_worth, some_even_rule, some_formed_rule, some_full_rule
from helpers import ODD_THINGS, Case, brute_sum, chance_of, grid_web, some_flat_outer_web, some_flat_web, swept_sum
from test_laying import lines_of, product_at
from test_limits import pairs_web
from test_lines import CROSSED, FLAT, LINE

from onebasis.closings import closings, flat_sum, sum_form
from onebasis.errors import BadLine, BadWeb, NoForm, NotFlat, TooMany
from onebasis.forms import Form
from onebasis.foundforms import form_of
from onebasis.lines import line_of
from onebasis.rules import Rule
from onebasis.webs import Web, plain_sum


class Closings(Case):
    def told_well(self, web, line, states):
        """Each state has the legs, and the worths, that the one ahead tells."""
        self.assertIs(type(states), list)
        legs, form = states[0]
        self.same(legs, tuple(line))
        worths = {bits: plain_worth(form, bits) for bits in product((0, 1), repeat=len(legs))}
        for bits, worth in worths.items():
            self.assertEqual(worth, product_at(web, line, bits))
        for fresh, form in states[1:]:
            tied = [k for k in range(len(legs) - 1) if tuple(sorted(legs[k:k + 2])) in web.ties][0]
            legs = legs[:tied] + legs[tied + 2:]
            self.same(fresh, legs)
            self.assertIs(type(form), Form)
            every = product((0, 1), repeat=len(legs))
            worths = {bits: sum(worths[bits[:tied] + (bit, bit) + bits[tied:]] for bit in (0, 1)) % web.prime
                      for bits in every}
            self.assertEqual({bits: plain_worth(form, bits) for bits in worths}, worths)
        self.assertEqual(legs, web.outer)
        self.assertEqual(len(states), len(web.ties) + 1)
        self.assertEqual(list(worths.values()), brute_sum(web))

    def test_states_by_hand(self):
        states = closings(FLAT, LINE)
        self.assertEqual([legs for legs, _ in states], [tuple(LINE), tuple(LINE[2:]), ((1, 1), (0, 2)), ()])
        self.assertEqual(states[3][1].number, 2)
        self.assertEqual(closings(Web(5, [], [], []), []), [((), Form(5, 1, (), []))])

    def test_states(self):
        chance = chance_of(430)
        met = 0
        for number in range(40):
            web = some_flat_outer_web(chance, 7, chance.randrange(1, 5), chance.randrange(2, 6), some_even_rule)
            if sum(rule.legs for rule in web.rules) <= 9:
                line = line_of(web)
                self.told_well(web, line, closings(web, line))
                met += any(brute_sum(web))
        self.assertGreater(met, 8)
        for number in range(12):
            web = some_flat_outer_web(chance, 7, 2, chance.randrange(2, 4), some_formed_rule)
            if sum(rule.legs for rule in web.rules) <= 6:
                for line in lines_of(web):
                    self.told_well(web, line, closings(web, tuple(line)))

    def test_flat_sum(self):
        chance = chance_of(431)
        met = set()
        for number in range(200):
            make = (some_flat_web, some_flat_outer_web)[number % 2]
            rules = (some_formed_rule, some_full_rule, some_even_rule)[number % 3]
            web = make(chance, (3, 7)[number % 2], chance.randrange(1, 6), chance.randrange(9), rules)
            told = flat_sum(web)
            self.assertIs(type(told), Rule)
            self.assertEqual(list(told.table), brute_sum(web))
            self.assertEqual(told, plain_sum(web))
            self.assertIsNotNone(form_of(told))
            self.assertEqual(sum_form(web), form_of(told))
            met |= set(told.table)
        self.assertEqual(len(met), 7)

    def test_many_ties(self):
        chance = chance_of(432)
        met = 0
        for many in (0, 1, 5, 8):
            for rules in (some_even_rule, some_full_rule):
                web = grid_web(chance, 97, 3, 10, many, rules)
                told = swept_sum(web)
                self.assertEqual(list(flat_sum(web).table), told)
                met += any(told)
        self.assertGreater(met, 5)
        web = pairs_web(7, some_even_rule(chance, 7, 8))
        pair = Web(7, web.rules[:2], web.ties[:8], [])
        wanted = 1
        for _ in range(25):
            wanted = wanted * plain_sum(pair).table[0] % 7
        self.assertEqual(flat_sum(web).table, (wanted * 2 ** 10 % 7,))

    def test_pieces_and_outer_legs(self):
        # Outer legs of two pieces, the one within the other's; outer legs alone; places without legs.
        two = Rule(7, [1, 0, 0, 3])
        web = Web(7, [two, two, Rule(7, [5])], [], [(0, 0), (1, 1), (1, 0), (0, 1)])
        self.assertEqual(list(flat_sum(web).table), brute_sum(web))
        self.refuses(NotFlat, None, flat_sum, Web(7, [two, two], [], [(0, 0), (1, 1), (0, 1), (1, 0)]))
        self.assertEqual(flat_sum(Web(7, [], [], [])), Rule(7, [1]))
        self.assertEqual(sum_form(Web(7, [Rule(7, [0])], [], [])), Form(7, 0, (), []))

    def test_refused(self):
        none = Rule(5, [1] * 8)
        unformed = Web(5, [FLAT.rules[0], none], FLAT.ties, [])
        for thing in ODD_THINGS:
            self.refuses(BadWeb, None, closings, thing, None)
            self.refuses(BadWeb, None, flat_sum, thing)
            self.refuses(BadWeb, None, sum_form, thing)
            self.refuses(BadLine, None, closings, unformed, thing)
        self.refuses(BadLine, None, closings, CROSSED, LINE)
        self.refuses(NoForm, 1, closings, unformed, LINE)
        for call in (flat_sum, sum_form):
            self.refuses(NoForm, 1, call, unformed)
            self.refuses(NoForm, 0, call, Web(5, [none, none], FLAT.ties, []))
            self.refuses(NotFlat, None, call, Web(5, [none, none], CROSSED.ties, []))
            self.refuses(NotFlat, None, call, CROSSED)
        web = pairs_web(7, Rule(7, [1] + [0] * 255))
        line = line_of(web)
        self.refuses(TooMany, 60, closings, web, line)
        self.refuses(NoForm, 0, closings, pairs_web(7, Rule(7, [1] * 256)), line)
        self.refuses(BadLine, None, closings, web, line[1:])
