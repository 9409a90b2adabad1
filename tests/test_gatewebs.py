from formhelpers import some_formed_rule
from helpers import ODD_THINGS, Case, brute_sum, chance_of, some_flat_web

from onebasis.errors import BadWeb, NotFlat, TooMany
from onebasis.gaterules import flat_rule
from onebasis.gates import Gate, is_flat_gate
from onebasis.gatewebs import web_gate
from onebasis.rules import Rule
from onebasis.webs import Web, is_flat


def opened(chance, web):
    """The web without one of its places, whose ties are outer legs; None if these are too many or tied twice."""
    place = chance.randrange(len(web.rules))
    legs = web.rules[place].legs
    if any(one[0] == place and other[0] == place for one, other in web.ties):
        return None

    def now(leg):
        return (leg[0] - (leg[0] > place), leg[1])

    ends = {}
    for one, other in web.ties:
        ends[one], ends[other] = other, one
    outer = [now(ends[place, legs - 1 - k]) for k in range(legs)]
    ties = [(now(one), now(other)) for one, other in web.ties if place not in (one[0], other[0])]
    rules = [rule for k, rule in enumerate(web.rules) if k != place]
    return Web(web.prime, rules, ties, outer)


class GateWebs(Case):
    def made_well(self, web):
        gate = web_gate(web)
        self.assertIsInstance(gate, Gate)
        self.assertTrue(is_flat_gate(gate))
        self.assertEqual(flat_rule(gate), Rule(web.prime, brute_sum(web)))

    def test_flat_webs(self):
        chance = chance_of(370)
        heavy = 0
        for _ in range(80):
            web = some_flat_web(chance, chance.choice((3, 7)), chance.randrange(1, 5), 6, some_formed_rule)
            if sum(max(1, rule.legs ** 2) for rule in web.rules) > 64:
                self.refuses(TooMany, 64, web_gate, web)
                continue
            self.made_well(web)
            told = opened(chance, web)
            if told is not None:
                self.assertTrue(is_flat(told))
                self.made_well(told)
                heavy += any(brute_sum(told))
        self.assertGreater(heavy, 5)

    def test_edges(self):
        self.made_well(Web(7, [], [], []))
        self.made_well(Web(7, [Rule(7, [3]), Rule(7, [2])], [], []))
        self.made_well(Web(7, [Rule(7, [0, 3])] * 2, [((0, 0), (1, 0))], []))
        self.assertEqual(flat_rule(web_gate(Web(3, [Rule(3, [2])] * 60, [], []))), Rule(3, [1]))
        pairs = Web(3, [Rule(3, [0, 2])] * 60, [((2 * k, 0), (2 * k + 1, 0)) for k in range(30)], [])
        self.assertEqual(flat_rule(web_gate(pairs)), Rule(3, [1]))
        zeros = Web(3, [Rule(3, [1, 0])] * 60, [((2 * k, 0), (2 * k + 1, 0)) for k in range(30)], [])
        self.assertEqual(flat_rule(web_gate(zeros)), Rule(3, [1]))
        twos = Web(3, [Rule(3, [1, 0, 0, 2])] * 16, [((k, 1), ((k + 1) % 16, 0)) for k in range(16)], [])
        self.assertEqual(flat_rule(web_gate(twos)), Rule(3, [(1 + 2 ** 16) % 3]))
        eight = Rule(3, [1] + [0] * 254 + [0])
        self.assertEqual(flat_rule(web_gate(Web(3, [eight], [], [(0, k) for k in range(8)]))), eight)

    def test_refused(self):
        for thing in ODD_THINGS:
            self.refuses(BadWeb, None, web_gate, thing)
        bad = Rule(7, [1] * 16)
        crossed = Web(7, [bad], [((0, 0), (0, 2)), ((0, 1), (0, 3))], [])
        self.refuses(NotFlat, None, web_gate, crossed)
        self.refuses(BadWeb, "rules", web_gate, Web(7, [bad], [((0, 0), (0, 1)), ((0, 2), (0, 3))], []))
        eight = Rule(7, [1] + [0] * 255)
        self.refuses(TooMany, 64, web_gate, Web(7, [eight, Rule(7, [1])], [], [(0, k) for k in range(8)]))
        self.refuses(BadWeb, "rules", web_gate, Web(7, [eight, Rule(7, [1, 1]), Rule(7, [1, 0])],
                                                    [((1, 0), (2, 0))], [(0, k) for k in range(8)]))
