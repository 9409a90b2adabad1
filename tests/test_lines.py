from itertools import combinations, permutations

from helpers import (ODD_THINGS, Case, chance_of, grid_web, is_sphere, some_flat_outer_web, some_flat_web, some_rule,
                     some_web)
from test_limits import pairs_web

from onebasis.errors import BadWeb
from onebasis.lines import is_line, line_of
from onebasis.rules import Rule
from onebasis.webs import Web, is_flat

R = Rule(5, [0, 1, 1, 0, 1, 0, 0, 3])
FLAT = Web(5, [R, R], [((0, 0), (1, 0)), ((0, 1), (1, 2)), ((0, 2), (1, 1))], [])
CROSSED = Web(5, [R, R], [((0, 0), (1, 0)), ((0, 1), (1, 1)), ((0, 2), (1, 2))], [])
LINE = [(0, 0), (1, 0), (1, 1), (1, 2), (0, 1), (0, 2)]


def plainly_line(web, legs):
    """Whether a sequence of all legs is a line, straight from the words of the document."""
    tie_of = {leg: tie for tie in web.ties for leg in tie}
    for place, rule in enumerate(web.rules):
        own = [k for p, k in legs if p == place]
        if own and own != [(own[0] + k) % rule.legs for k in range(rule.legs)]:
            return False
    for a, b, c, d in combinations(legs, 4):
        if a[0] == c[0] and b[0] == d[0] and a[0] != b[0]:
            return False
        if a in tie_of and b in tie_of and tie_of[a] == tie_of.get(c) and tie_of[b] == tie_of.get(d):
            if tie_of[a] != tie_of[b]:
                return False
    if [leg for leg in legs if leg in web.outer] != list(web.outer):
        return False
    where = {leg: k for k, leg in enumerate(legs)}
    return not any(min(where[x] for x in tie) < where[leg] < max(where[x] for x in tie)
                   for tie in web.ties for leg in web.outer)


def plainly_flat(web):
    """Whether a web is flat: rings of ends with outside put in as a place more."""
    ends = {}
    for number, tie in enumerate(web.ties):
        ends[tie[0]], ends[tie[1]] = (number, 0), (number, 1)
    last = []
    for k, leg in enumerate(web.outer):
        ends[leg] = (len(web.ties) + k, 0)
        last.insert(0, (len(web.ties) + k, 1))
    rings = [[ends[place, k] for k in range(rule.legs)] for place, rule in enumerate(web.rules)]
    return is_sphere(rings + ([last] if last else []))


class Lines(Case):
    def test_by_hand(self):
        self.assertIs(is_line(FLAT, LINE), True)
        self.assertIs(is_line(FLAT, tuple(LINE)), True)
        self.assertIs(is_line(CROSSED, LINE), False)
        self.assertIsNone(line_of(CROSSED))
        self.assertTrue(plainly_line(FLAT, line_of(FLAT)))
        self.same(line_of(Web(5, [], [], [])), [])
        self.same(line_of(Web(5, [Rule(5, [1]), Rule(5, [2])], [], [])), [])
        self.same(line_of(Web(5, [Rule(5, [1]), R], [], [(1, 1), (1, 2), (1, 0)])), [(1, 1), (1, 2), (1, 0)])
        self.assertIsNone(line_of(Web(5, [R], [], [(0, 1), (0, 0), (0, 2)])))

    def test_all_sequences_of_few_legs(self):
        chance = chance_of(400)
        found = {True: 0, False: 0}
        for number in range(90):
            web = some_web(chance, 3, chance.randrange(1, 3), 3, 2)
            if number % 3 == 0:
                web = some_flat_outer_web(chance, 3, chance.randrange(1, 4), chance.randrange(4))
            legs = [(place, k) for place, rule in enumerate(web.rules) for k in range(rule.legs)]
            if len(legs) > 6:
                continue
            lines = [legs for legs in permutations(legs) if plainly_line(web, legs)]
            for told in permutations(legs):
                self.assertIs(is_line(web, list(told)), told in lines)
            flat = plainly_flat(web)
            self.assertIs(bool(lines), flat)
            self.assertIs(is_flat(web), flat)
            line = line_of(web)
            self.assertIs(line is None, not flat)
            if flat:
                self.assertIn(tuple(line), lines)
            found[flat] += 1
        self.assertGreater(min(found.values()), 8)

    def test_a_line_exactly_if_flat(self):
        chance = chance_of(401)
        found = {True: 0, False: 0}
        for number in range(400):
            if number % 3 == 0:
                web = some_web(chance, 3, chance.randrange(1, 6), chance.randrange(8))
            elif number % 3 == 1:
                web = some_flat_web(chance, 3, chance.randrange(1, 7), chance.randrange(10))
            else:
                web = some_flat_outer_web(chance, 3, chance.randrange(1, 6), chance.randrange(10))
            line, flat = line_of(web), plainly_flat(web)
            found[flat] += 1
            if flat:
                self.assertIs(type(line), list)
                self.assertTrue(plainly_line(web, line))
                self.assertTrue(is_line(web, line))
            else:
                self.assertIsNone(line)
        self.assertGreater(min(found.values()), 40)

    def test_changed_lines(self):
        chance = chance_of(402)
        for _ in range(40):
            web = some_flat_outer_web(chance, 3, 4, 7)
            line = line_of(web)
            for k in range(len(line) - 1):
                told = line[:k] + [line[k + 1], line[k]] + line[k + 2:]
                self.assertIs(is_line(web, told), plainly_line(web, told))
                self.assertIs(is_line(web, line[:k] + line[k + 1:]), False)
                self.assertIs(is_line(web, line[:k] + [line[k + 1]] + line[k + 1:]), False)
                self.assertIs(is_line(web, line[:k] + [list(line[k])] + line[k + 1:]), False)
            for many in range(len(line)):
                told = line[many:] + line[:many]
                self.assertIs(is_line(web, told), plainly_line(web, told))
            self.assertIs(is_line(web, line[::-1]), plainly_line(web, line[::-1]))

    def test_at_the_limits(self):
        web = pairs_web(3, Rule(3, [1] * 256))
        line = line_of(web)
        self.assertEqual(len(line), 400)
        self.assertTrue(is_line(web, line))
        self.assertFalse(is_line(web, line[:-2] + [line[-1], line[-2]]))
        wide = grid_web(chance_of(403), 3, 3, 20, 8, some_rule)
        line = line_of(wide)
        self.assertTrue(is_line(wide, line))
        self.assertEqual([leg for leg in line if leg in wide.outer], list(wide.outer))

    def test_any_value(self):
        for thing in ODD_THINGS + [LINE[:-1], LINE + [(0, 3)], LINE[:-1] + [None], LINE[:-1] + [(0, 2.0)],
                                   LINE[:1] + [(True, 0)] + LINE[2:], [(0, False)] + LINE[1:], [0] * 6, "abcdef",
                                   [list(leg) for leg in LINE], {leg: 1 for leg in LINE}, set(LINE),
                                   LINE[:-1] + [(0, 3)], LINE[:-1] + [(2, 0)], LINE[:-1] + [(0, -1)]]:
            self.assertIs(is_line(FLAT, thing), False, thing)
        self.assertIs(is_line(Web(5, [], [], []), []), True)
        self.assertIs(is_line(Web(5, [], [], []), ()), True)
        self.assertIs(is_line(Web(5, [], [], []), None), False)

    def test_refused(self):
        for thing in ODD_THINGS:
            self.refuses(BadWeb, None, is_line, thing, [])
            self.refuses(BadWeb, None, line_of, thing)
