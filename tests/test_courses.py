from helpers import ODD_THINGS, Case, at, brute_sum, chance_of, some_flat_web, some_rule, some_web
from itertools import product

from onebasis.courses import course_of, is_course, region_rule, regions, ring
from onebasis.errors import BadCourse, BadNumber, BadWeb, TooMany
from onebasis.rules import Rule
from onebasis.webs import Web, is_flat, pieces


def star(legs):
    return Rule(3, [1] * (1 << legs))


TWO = star(2)
ROUND = Web(3, [TWO] * 4, [((k, 1), ((k + 1) % 4, 0)) for k in range(4)], [])
T01, T12, T23, T30 = ((0, 1), (1, 0)), ((1, 1), (2, 0)), ((2, 1), (3, 0)), ((0, 0), (3, 1))


def some_course(chance, web):
    """A made-up course."""
    ties = list(web.ties)
    chance.shuffle(ties)
    region = list(range(len(web.rules)))
    course = []
    for tie in ties:
        one, other = region[tie[0][0]], region[tie[1][0]]
        if one != other:
            region = [one if x == other else x for x in region]
            course.append(tie)
    return course


def plain_region_rule(web, places, legs):
    """The worths by going through all bits on all ties and outer legs, and bits of their own on the ring's legs."""
    shut = [tie for tie in web.ties if tie[0][0] in places and tie[1][0] in places and tie[0] not in legs]
    worths = []
    for outer in product((0, 1), repeat=len(legs)):
        total = 0
        for inner in product((0, 1), repeat=len(shut)):
            bits = dict(zip(legs, outer))
            for tie, bit in zip(shut, inner):
                bits[tie[0]] = bits[tie[1]] = bit
            number = 1
            for place in places:
                number *= at(web.rules[place], [bits[place, k] for k in range(web.rules[place].legs)])
            total += number
        worths.append(total % web.prime)
    return Rule(web.prime, worths)


class Courses(Case):
    def test_course_of_by_hand(self):
        # The first round joins 0 with 1 and 2 with 3, the second one both of these.
        self.same(ROUND.ties, (T30, T01, T12, T23))
        self.same(course_of(ROUND), [T30, T12, T01])
        row = Web(3, [TWO] * 5, [((k, 1), (k + 1, 0)) for k in range(4)], [(0, 0), (4, 1)])
        links = list(row.ties)
        self.same(course_of(row), [links[0], links[2], links[1], links[3]])
        self.same(course_of(Web(3, [], [], [])), [])
        self.same(course_of(Web(3, [TWO], [((0, 0), (0, 1))], [])), [])
        twice = Web(3, [TWO, TWO], [((0, 0), (1, 0)), ((0, 1), (1, 1))], [])
        self.same(course_of(twice), [((0, 0), (1, 0))])
        self.refuses(BadWeb, None, course_of, None)

    def test_rounds(self):
        chance = chance_of(90)
        for _ in range(30):
            web = some_web(chance, 3, 6, 8)
            label, course, many = list(range(6)), [], 6
            while True:
                start = many
                for tie in web.ties:
                    one, other = label[tie[0][0]], label[tie[1][0]]
                    if one != other and one < start and other < start:
                        label = [many if x in (one, other) else x for x in label]
                        many += 1
                        course.append(tie)
                if many == start:
                    break
            self.same(course_of(web), course)
            self.assertIs(is_course(web, course), True)

    def test_is_course(self):
        self.assertIs(is_course(ROUND, [T01, T12, T23]), True)
        self.assertIs(is_course(ROUND, (T23, T30, T01)), True)
        self.assertIs(is_course(Web(3, [], [], []), []), True)
        for thing in ODD_THINGS + [[T01, T12], [T01, T12, T23, T30], [T01, T01, T12], [T01, T12, ((3, 0), (2, 1))],
                                   [T01, T12, [(2, 1), (3, 0)]], [T01, T12, ((2, True), (3, 0))], [T01, T12, None], [T01, T12, (2, 3)],
                                   [T01, T12, ((2, 1), (3, False))], [T01, T12, ([2, 1], (3, 0))]]:
            self.assertIs(is_course(ROUND, thing), False, thing)
        loop = Web(3, [star(4), TWO], [((0, 0), (0, 1)), ((0, 2), (1, 0)), ((0, 3), (1, 1))], [])
        self.assertIs(is_course(loop, [((0, 2), (1, 0))]), True)
        self.assertIs(is_course(loop, [((0, 0), (0, 1))]), False)
        for thing in ODD_THINGS:
            self.refuses(BadWeb, None, is_course, thing, [])

    def test_regions(self):
        self.same(regions(ROUND, [T23, T01, T12]), [[0], [1], [2], [3], [2, 3], [0, 1], [0, 1, 2, 3]])
        self.same(regions(Web(3, [star(0), star(0)], [], []), []), [[0], [1]])
        self.refuses(BadCourse, None, regions, ROUND, [T23])
        self.refuses(BadWeb, None, regions, None, None)
        chance = chance_of(91)
        for _ in range(20):
            web = some_web(chance, 3, 5, 6)
            told = regions(web, some_course(chance, web))
            lasts = [r for r in told if not any(set(r) < set(s) for s in told)]
            self.assertEqual(sorted(lasts), pieces(web))

    def test_ring_by_hand(self):
        course = [T01, T12, T23]
        self.same([ring(ROUND, course, k) for k in range(4)], [((k, 0), (k, 1)) for k in range(4)])
        self.same(ring(ROUND, course, 4), ((0, 0), (1, 1)))
        self.same(ring(ROUND, course, 5), ((0, 0), (2, 1)))
        self.same(ring(ROUND, course, 6), ())
        loop = Web(3, [star(4)], [((0, 0), (0, 3))], [(0, 2), (0, 1)])
        self.same(ring(loop, [], 0), ((0, 1), (0, 2)))
        crossed = Web(3, [star(4)], [((0, 0), (0, 2)), ((0, 1), (0, 3))], [])
        self.same(ring(crossed, [], 0), ((0, 0), (0, 1), (0, 2), (0, 3)))
        # From behind the tie's legs: (0, 2), (0, 0), then (1, 0), (1, 1), told from (0, 0) on.
        fork = Web(3, [star(3), star(3)], [((0, 1), (1, 2))], [(0, 0), (0, 2), (1, 0), (1, 1)])
        self.same(ring(fork, [((0, 1), (1, 2))], 2), ((0, 0), (1, 0), (1, 1), (0, 2)))
        self.refuses(BadWeb, None, ring, 0, None, None)
        self.refuses(BadCourse, None, ring, ROUND, [], None)
        for thing in (-1, 7, None, True, "0"):
            self.refuses(BadNumber, "region", ring, ROUND, course, thing)

    def test_flat_exactly_if_last_rings_are_empty(self):
        chance = chance_of(92)
        found = set()
        for number in range(120):
            web = some_web(chance, 3, 4, 6, 0)
            if number % 2:
                web = some_flat_web(chance, 3, 4, 6)
            if web.outer:
                continue
            for course in (course_of(web), some_course(chance, web)):
                told = regions(web, course)
                last = [k for k, r in enumerate(told) if r in pieces(web)]
                last = [k for k in last if not any(set(told[k]) < set(s) for s in told)]
                empty = all(ring(web, course, k) == () for k in last)
                self.assertEqual(empty, is_flat(web))
                found.add(empty)
        self.assertEqual(found, {True, False})

    def test_region_rule(self):
        chance = chance_of(93)
        for number in range(40):
            web = some_flat_web(chance, 7, 4, 6) if number % 2 else some_web(chance, 7, 4, 5)
            course = some_course(chance, web)
            for k, places in enumerate(regions(web, course)):
                legs = ring(web, course, k)
                if len(legs) <= 8:
                    self.assertEqual(region_rule(web, course, k), plain_region_rule(web, places, legs))

    def test_region_rule_of_all_places_is_the_sum(self):
        chance = chance_of(94)
        for _ in range(20):
            web = some_flat_web(chance, 7, 4, 7)
            course = course_of(web)
            product_of_all = 1
            told = regions(web, course)
            for piece in pieces(web):
                last = max(k for k, r in enumerate(told) if r == piece)
                product_of_all *= region_rule(web, course, last).table[0]
            self.assertEqual([product_of_all % 7], brute_sum(web))

    def test_region_rule_refused(self):
        self.refuses(BadWeb, None, region_rule, 0, None, None)
        self.refuses(BadCourse, None, region_rule, ROUND, [], None)
        self.refuses(BadNumber, "region", region_rule, ROUND, [T01, T12, T23], 7)
        legs = [(p, k) for p in range(2) for k in range(8)]
        web = Web(3, [star(8), star(8)], [(legs[0], legs[8]), (legs[1], legs[12])] + list(zip(legs[2:4], legs[9:11])),
                  legs[4:8] + [legs[11]] + legs[13:])
        self.refuses(TooMany, 8, region_rule, web, [web.ties[0]], 2)
        full = Web(3, [star(8)] * 4, [(((k // 8), k % 8), (2 + k // 8, 7 - k % 8)) for k in range(8)]
                   + [((1, k), (3, 7 - k)) for k in range(8)], [])
        more = [((0, 0), (2, 7)), ((1, 0), (3, 7))]
        self.assertEqual(region_rule(full, more, 4).legs, 0)
        chain = Web(3, [star(6)] + [star(8)] * 3 + [star(2)], [((0, k), (1, 5 - k)) for k in range(4)]
                    + [((1, 6 + k), (2, 1 - k)) for k in range(2)] + [((2, 2 + k), (3, 5 - k)) for k in range(6)]
                    + [((3, 6), (4, 1)), ((3, 7), (4, 0))], [(0, 4), (0, 5), (1, 0), (1, 1)])
        course = [chain.ties[0], ((1, 6), (2, 1)), ((2, 2), (3, 5)), ((3, 6), (4, 1))]
        legs = ring(chain, course, 8)
        self.assertLessEqual(len(legs), 8)
        self.refuses(TooMany, 12, region_rule, chain, course, 8)
