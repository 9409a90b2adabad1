from itertools import permutations, product

from formhelpers import plain_worth, some_formed_rule
from helpers import ODD_THINGS, Case, at, chance_of, some_flat_outer_web
from test_lines import CROSSED, FLAT, LINE, plainly_line

from onebasis.errors import BadLine, BadWeb, NoForm, TooMany
from onebasis.forms import Form, form_worth
from onebasis.laying import laid
from onebasis.lines import line_of
from onebasis.rules import Rule
from onebasis.webs import Web


def product_at(web, line, bits):
    """The product of what the rules are worth at the bits of the legs of the line."""
    told = dict(zip(line, bits))
    number = 1
    for place, rule in enumerate(web.rules):
        number = number * at(rule, [told[place, k] for k in range(rule.legs)]) % web.prime
    return number


def lines_of(web):
    """All lines of a web of few legs."""
    legs = [(place, k) for place, rule in enumerate(web.rules) for k in range(rule.legs)]
    return [list(told) for told in permutations(legs) if plainly_line(web, told)]


class Laying(Case):
    def test_all_lines_of_few_legs(self):
        chance = chance_of(420)
        met = set()
        for _ in range(30):
            web = some_flat_outer_web(chance, 7, chance.randrange(1, 4), chance.randrange(4), some_formed_rule)
            if sum(rule.legs for rule in web.rules) > 6:
                continue
            for line in lines_of(web):
                form = laid(web, line)
                self.assertIs(type(form), Form)
                self.assertEqual(form.legs, len(line))
                for bits in product((0, 1), repeat=len(line)):
                    worth = product_at(web, line, bits)
                    met.add(worth)
                    self.assertEqual(plain_worth(form, bits), worth)
        self.assertEqual(len(met), 7)

    def test_more_legs(self):
        chance = chance_of(421)
        for _ in range(10):
            web = some_flat_outer_web(chance, 97, 5, 8, some_formed_rule)
            line = line_of(web)
            form = laid(web, tuple(line))
            for _ in range(60):
                bits = [chance.randrange(2) for _ in line]
                self.assertEqual(form_worth(form, tuple(bits)), product_at(web, line, bits))

    def test_edges(self):
        self.assertEqual(laid(Web(5, [], [], []), []), Form(5, 1, (), []))
        self.assertEqual(laid(Web(5, [Rule(5, [2]), Rule(5, [3])], [], []), []), Form(5, 1, (), []))
        form = laid(Web(5, [Rule(5, [0] * 4), Rule(5, [2])], [], [(0, 1), (0, 0)]), [(0, 1), (0, 0)])
        self.assertEqual([plain_worth(form, bits) for bits in product((0, 1), repeat=2)], [0] * 4)

    def test_refused(self):
        for thing in ODD_THINGS:
            self.refuses(BadWeb, None, laid, thing, None)
        for thing in ODD_THINGS + [LINE[:-1], LINE[:1] + LINE[:0:-1]]:
            self.refuses(BadLine, None, laid, FLAT, thing)
            self.refuses(BadLine, None, laid, CROSSED, thing)
        none = Rule(5, [1] * 8)
        self.refuses(NoForm, 1, laid, Web(5, [FLAT.rules[0], none], FLAT.ties, []), LINE)
        self.refuses(NoForm, 0, laid, Web(5, [none, none], FLAT.ties, []), LINE)
        wide = [Rule(5, [1] + [0] * 127), Rule(5, [1] * 2)] + [Rule(5, [1] + [0] * 255)] * 7
        legs = [(place, k) for place, rule in enumerate(wide) for k in range(rule.legs)]
        ties = [(legs[k], legs[k + 1]) for k in range(0, 6, 2)] + [(legs[6], legs[7])]
        ties += [(legs[k], legs[k + 1]) for k in range(8, 64, 2)]
        self.refuses(NoForm, 1, laid, Web(5, wide, ties, []), legs)
        wide[1] = Rule(5, [1, 0])
        self.refuses(TooMany, 60, laid, Web(5, wide, ties, []), legs)
        self.refuses(BadLine, None, laid, Web(5, wide, ties, []), legs[1:])
        less = [leg for leg in legs if leg[0] < 8] + [(8, k) for k in range(4)]
        told = Web(5, wide[:8] + [Rule(5, [1] + [0] * 15)], [tie for tie in ties if tie[1] in less], [])
        self.assertEqual(laid(told, less).legs, 60)
