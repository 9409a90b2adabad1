from itertools import product

from formhelpers import plain_pfaffian, plain_worth, some_even_rule, some_formed_rule, some_full_rule
from helpers import ODD_THINGS, Case, brute_sum, chance_of, grid_web, some_flat_outer_web, some_flat_web, swept_sum
from test_laying import lines_of, product_at
from test_limits import pairs_web
from test_lines import CROSSED, FLAT, LINE

from onebasis.boards import board_of, board_sum
from onebasis.closings import flat_sum
from onebasis.errors import BadLine, BadWeb, NoForm, TooMany
from onebasis.forms import Form, form_worth
from onebasis.foundforms import form_of
from onebasis.lines import line_of
from onebasis.pfaffians import pfaffian
from onebasis.rules import Rule
from onebasis.webs import Web

NUMBERS = {(0, 1): 1, (0, 6): 3, (0, 7): 1, (1, 2): 3, (1, 4): 1, (2, 3): 1, (2, 4): 1, (3, 7): 4, (4, 5): 1, (5, 6): 1,
           (6, 7): 1}


def plain_added(web, line, flips, spots):
    """What the ties add ahead of the diagonal, by spots."""
    added = {}
    where = {leg: k for k, leg in enumerate(line)}
    spans = {tie: sorted(tie, key=lambda leg: where[leg]) for tie in web.ties}
    unlike = [tie for tie in web.ties if (tie[0] in flips) != (tie[1] in flips)]
    for tie, (first, second) in spans.items():
        within = [t for t in unlike if all(where[first] < where[leg] < where[second] for leg in t)]
        sign = (-1) ** len(within)
        if tie in unlike:
            added[tie, second] = sign
            added[first, tie] = 1
        else:
            added[first, second] = sign
    return {(spots.index(x), spots.index(y)): number for (x, y), number in added.items()}


class Boards(Case):
    def told_well(self, web, line, board):
        self.assertEqual(list(board), ["flips", "number", "spots", "table"])
        flips, number, spots, table = board.values()
        self.same([type(flips), type(number), type(spots), type(table)], [list, int, list, list])
        self.assertEqual(flips, [leg for leg in line if leg in flips])
        wanted = []
        for leg in line:
            wanted.append(leg)
            for tie in web.ties:
                if leg in tie and (tie[0] in flips) != (tie[1] in flips):
                    other = tie[1 - tie.index(leg)]
                    if line.index(leg) < line.index(other):
                        wanted.append(tie)
        self.same(spots, wanted)
        many = len(spots)
        self.assertEqual([len(row) for row in table], [many] * many)
        added = plain_added(web, line, flips, spots)
        less = [list(row) for row in table]
        for i, j in product(range(many), repeat=2):
            self.assertIs(type(table[i][j]), int)
            self.assertTrue(0 <= table[i][j] < web.prime)
            self.assertEqual((table[i][j] + table[j][i]) % web.prime, 0)
            less[i][j] = (table[i][j] - added.get((i, j), 0) + added.get((j, i), 0)) % web.prime
        legs = [k for k, spot in enumerate(spots) if spot in line]
        for k in range(many):
            if k not in legs:
                self.assertEqual(less[k], [0] * many)
        places = tuple(k for k, leg in enumerate(line) if leg in flips)
        return Form(web.prime, number, places, [[less[i][j] for j in legs] for i in legs])

    def test_by_hand(self):
        self.assertEqual(form_of(FLAT.rules[0]), Form(5, 1, (2,), ((0, 3, 1), (2, 0, 1), (4, 4, 0))))
        board = board_of(FLAT, LINE)
        spots = [(0, 0), (1, 0), (1, 1), ((0, 2), (1, 1)), (1, 2), ((0, 1), (1, 2)), (0, 1), (0, 2)]
        self.same(board["flips"], [(1, 2), (0, 2)])
        self.same(board["number"], 1)
        self.same(board["spots"], spots)
        wanted = [[0] * 8 for _ in range(8)]
        for (i, j), number in NUMBERS.items():
            wanted[i][j], wanted[j][i] = number, -number % 5
        self.same(board["table"], wanted)
        self.assertEqual(pfaffian(5, board["table"]), 2)
        self.assertEqual(board_sum(FLAT, LINE), Rule(5, [2]))

    def test_boards_of_few_legs(self):
        chance = chance_of(440)
        met = set()
        for number in range(60):
            make = (some_formed_rule, some_even_rule, some_full_rule)[number % 3]
            web = some_flat_outer_web(chance, 7, chance.randrange(1, 4), chance.randrange(5), make)
            if sum(rule.legs for rule in web.rules) > 6:
                continue
            for line in lines_of(web):
                board = board_of(web, line)
                form = self.told_well(web, line, board)
                for bits in product((0, 1), repeat=len(line)):
                    self.assertEqual(plain_worth(form, bits), product_at(web, line, bits))
                self.assertEqual(list(board_sum(web, tuple(line)).table), brute_sum(web))
                table, outer = board["table"], list(web.outer)
                for bits, worth in zip(product((0, 1), repeat=len(outer)), brute_sum(web)):
                    gone = [leg for leg, bit in zip(outer, bits) if (leg in board["flips"]) == (bit == 1)]
                    left = [k for k, spot in enumerate(board["spots"]) if spot not in gone]
                    rows = [[table[i][j] for j in left] for i in left]
                    self.assertEqual(board["number"] * plain_pfaffian(rows, 7) % 7, worth)
                    met.add(worth)
        self.assertEqual(len(met), 7)

    def test_boards_of_more_legs(self):
        chance = chance_of(441)
        met = 0
        for number in range(80):
            make = (some_formed_rule, some_even_rule, some_full_rule)[number % 3]
            some = (some_flat_web, some_flat_outer_web)[number % 2]
            web = some(chance, (3, 97)[number % 2], chance.randrange(1, 6), chance.randrange(9), make)
            line = line_of(web)
            form = self.told_well(web, line, board_of(web, line))
            for _ in range(10):
                bits = [chance.randrange(2) for _ in line]
                self.assertEqual(form_worth(form, tuple(bits)), product_at(web, line, bits))
            told = brute_sum(web)
            self.assertEqual(list(board_sum(web, line).table), told)
            met += any(told)
        self.assertGreater(met, 25)

    def test_any_number_of_legs(self):
        chance = chance_of(442)
        met = 0
        for many in (0, 1, 4, 8):
            for make in (some_even_rule, some_full_rule, some_formed_rule):
                web = grid_web(chance, 97, 3, 10, many, make)
                told = swept_sum(web)
                line = line_of(web)
                self.assertEqual(list(board_sum(web, line).table), told)
                self.refuses(TooMany, 60, board_of, web, line)
                met += any(told)
        self.assertGreater(met, 6)
        web = pairs_web(7, some_even_rule(chance, 7, 8))
        self.assertEqual(board_sum(web, line_of(web)), flat_sum(web))

    def test_edges(self):
        empty = Web(5, [], [], [])
        self.same(board_of(empty, []), {"flips": [], "number": 1, "spots": [], "table": []})
        self.assertEqual(board_sum(empty, []), Rule(5, [1]))
        zero = Web(5, [Rule(5, [0] * 8)], [], [(0, 1), (0, 2), (0, 0)])
        self.assertEqual(board_sum(zero, list(zero.outer)), Rule(5, [0] * 8))
        # Inner spots whose rows are 0 but at outer legs.
        rule = Rule(5, [0, 1, 2, 0, 3, 0, 0, 4])
        for outer in ([(0, 0)], [(0, 2)]):
            tied = [(0, k) for k in range(3) if (0, k) not in outer]
            web = Web(5, [rule], [tuple(tied)], outer)
            self.assertEqual(list(board_sum(web, line_of(web)).table), brute_sum(web))

    def test_refused(self):
        none = Rule(5, [1] * 8)
        unformed = Web(5, [FLAT.rules[0], none], FLAT.ties, [])
        for call in (board_of, board_sum):
            for thing in ODD_THINGS:
                self.refuses(BadWeb, None, call, thing, None)
                self.refuses(BadLine, None, call, unformed, thing)
            self.refuses(BadLine, None, call, CROSSED, LINE)
            self.refuses(NoForm, 1, call, unformed, LINE)
            web = pairs_web(7, Rule(7, [1] * 256))
            self.refuses(NoForm, 0, call, web, line_of(web))
