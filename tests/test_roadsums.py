from itertools import product

from helpers import ODD_THINGS, Case, at, brute_sum, chance_of, grid_web, some_rule, some_web, swept_sum
from test_lines import CROSSED, FLAT
from test_roads import BAD_ROADS

from onebasis.errors import BadRoad, BadWeb, TooMany
from onebasis.roads import road_width
from onebasis.roadsums import road_counts, road_sum
from onebasis.rules import Rule, ones
from onebasis.webs import Web, plain_sum


def plain_counts(web):
    """The sums over the bits of which so many are 1, going through all bits."""
    counts = [0] * (len(web.ties) + 1)
    for inner in product((0, 1), repeat=len(web.ties)):
        bits = {leg: bit for tie, bit in zip(web.ties, inner) for leg in tie}
        number = 1
        for place, rule in enumerate(web.rules):
            number *= at(rule, [bits[place, k] for k in range(rule.legs)])
        counts[sum(inner)] += number
    return [number % web.prime for number in counts]


def wide_web(width):
    """Two places, and between them others, one behind another, so that a road of them has this width."""
    first, second = Rule(3, [1] * 256), Rule(3, [1] * (1 << (width - 8)))
    rules = [first, second, first, second]
    ties = [((0, k), (2, k)) for k in range(8)] + [((1, k), (3, k)) for k in range(width - 8)]
    return Web(3, rules, ties, [])


class RoadSums(Case):
    def test_by_hand(self):
        self.assertEqual(road_sum(CROSSED, [0, 1]), Rule(5, [12 % 5]))
        self.same(road_counts(CROSSED, (0, 1)), [0, 3, 0, 4])
        self.same(road_counts(Web(5, [], [], []), []), [1])
        self.assertEqual(road_sum(Web(5, [], [], []), []), Rule(5, [1]))
        ring = Web(5, [ones(5, 2, [1, 0, 1])] * 3, [((0, 1), (1, 0)), ((1, 1), (2, 0)), ((2, 1), (0, 0))], [])
        self.same(road_counts(ring, [2, 0, 1]), [1, 0, 0, 1])

    def test_against_all_bits(self):
        chance = chance_of(490)
        for number in range(150):
            web = some_web(chance, (3, 7, 97)[number % 3], chance.randrange(1, 6), chance.randrange(9), 4)
            for _ in range(3):
                road = list(range(len(web.rules)))
                chance.shuffle(road)
                if road_width(web, road) > 10:
                    self.refuses(TooMany, 10, road_sum, web, road)
                    continue
                told = road_sum(web, road)
                self.assertEqual(told, plain_sum(web))
                self.assertEqual(list(told.table), brute_sum(web))
                if not web.outer:
                    self.same(road_counts(web, road), plain_counts(web))
                    self.assertEqual(sum(road_counts(web, road)) % web.prime, told.table[0])

    def test_many_ties(self):
        chance = chance_of(491)
        web = grid_web(chance, 97, 3, 10, 4, some_rule)
        road = list(range(30))
        self.assertEqual(list(road_sum(web, road).table), swept_sum(web))
        self.assertEqual(list(road_sum(web, road[::-1]).table), swept_sum(web))
        plain = grid_web(chance, 97, 3, 20, 0, some_rule)
        counts = road_counts(plain, list(range(60)))
        self.assertEqual(len(counts), len(plain.ties) + 1)
        self.assertEqual([sum(counts) % 97], swept_sum(plain))
        # A 1 on each tie counts as 2 if all legs do that stand first in their ties.
        firsts = {tie[0] for tie in plain.ties}
        rules = []
        for place, rule in enumerate(plain.rules):
            twos = [2 if (place, k) in firsts else 1 for k in range(rule.legs)]
            table = []
            for number, bits in zip(rule.table, product((0, 1), repeat=rule.legs)):
                for factor, bit in zip(twos, bits):
                    number = number * (factor if bit else 1)
                table.append(number % 97)
            rules.append(Rule(97, table))
        weighed = sum(number * 2 ** k for k, number in enumerate(counts)) % 97
        self.assertEqual([weighed], swept_sum(Web(97, rules, plain.ties, [])))

    def test_two_hundred_ties(self):
        # All rules are 1 everywhere: so many bits of all ties are 1 in as many ways as one can choose them.
        rule = Rule(97, [1] * 256)
        ties = [((n, 4 + k), ((n + 1) % 50, k)) for n in range(50) for k in range(4)]
        web = Web(97, [rule] * 50, ties, [])
        road = list(range(50))
        self.assertEqual(road_width(web, road), 8)
        row = [1]
        for _ in range(200):
            row = [(x + y) % 97 for x, y in zip([0] + row, row + [0])]
        self.same(road_counts(web, road), row)
        self.assertEqual(road_sum(web, road), Rule(97, [pow(2, 200, 97)]))

    def test_widths(self):
        self.assertEqual(road_sum(wide_web(10), [0, 1, 2, 3]), Rule(3, [2 ** 10 % 3]))
        self.assertEqual(road_sum(wide_web(11), [0, 2, 1, 3]), Rule(3, [2 ** 11 % 3]))
        for call in (road_sum, road_counts):
            self.refuses(TooMany, 10, call, wide_web(11), [0, 1, 2, 3])

    def test_refused(self):
        outer = Web(5, [FLAT.rules[0]], [], [(0, 0), (0, 1), (0, 2)])
        for thing in ODD_THINGS:
            self.refuses(BadWeb, None, road_sum, thing, None)
            self.refuses(BadWeb, None, road_counts, thing, None)
        for thing in BAD_ROADS:
            self.refuses(BadRoad, None, road_sum, FLAT, thing)
            self.refuses(BadRoad, None, road_counts, FLAT, thing)
            self.refuses(BadWeb, "outer", road_counts, outer, thing)
