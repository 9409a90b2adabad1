from helpers import ODD_THINGS, Case, brute_sum, chance_of, is_sphere, some_flat_web, some_rule, some_web

from onebasis.errors import BadNumber, BadWeb, TooMany
from onebasis.rules import Rule
from onebasis.webs import Web, faces, is_flat, part, pieces, plain_sum

TWO = Rule(7, [1, 2, 3, 4])
ONE = Rule(7, [1, 2])
NONE = Rule(7, [3])


def star(prime, legs):
    return Rule(prime, [1] * (1 << legs))


class Webs(Case):
    def test_attributes(self):
        rules, ties, outer = [TWO, ONE, TWO], [((2, 0), (0, 1)), ((1, 0), (0, 0))], [(2, 1)]
        web = Web(7, rules, ties, outer)
        rules.append(ONE)
        ties.append(1)
        outer.append((2, 1))
        self.assertEqual(web.rules, (TWO, ONE, TWO))
        self.same(web.ties, (((0, 0), (1, 0)), ((0, 1), (2, 0))))
        self.same(web.outer, ((2, 1),))
        self.same((web.prime, type(web.rules)), (7, tuple))

    def test_equal(self):
        web = Web(7, [TWO], [], [(0, 0), (0, 1)])
        self.assertEqual(web, Web(7, (TWO,), (), ((0, 0), (0, 1))))
        self.assertNotEqual(web, Web(7, [TWO], [], [(0, 1), (0, 0)]))
        self.assertNotEqual(web, Web(7, [TWO], [((0, 0), (0, 1))], []))
        self.assertNotEqual(Web(7, [], [], []), Web(5, [], [], []))
        self.assertNotEqual(Web(7, [NONE], [], []), Web(7, [], [], []))
        self.assertEqual(Web(7, [TWO], [((0, 1), (0, 0))], []), Web(7, [TWO], [((0, 0), (0, 1))], []))
        four, outer = star(7, 6), [(0, 4), (0, 5)]
        self.assertNotEqual(Web(7, [four], [((0, 0), (0, 1)), ((0, 2), (0, 3))], outer),
                            Web(7, [four], [((0, 0), (0, 2)), ((0, 1), (0, 3))], outer))
        for thing in ODD_THINGS:
            self.assertFalse(web == thing)

    def test_refused(self):
        for thing in ODD_THINGS + [2, 4, 9, 99, 101]:
            self.refuses(BadWeb, "prime", Web, thing, None, None, None)
        for thing in (None, 5, "", {}, [1], [TWO, None], [Rule(5, [1])], [NONE] * 61, {0: TWO}):
            self.refuses(BadWeb, "rules", Web, 7, thing, None, None)
        tie = ((0, 0), (0, 1))
        for thing in (None, 5, [tie, tie], [((0, 0), (0, 0))], [((0, 0), (0, 2))], [((0, 0), (1, 0))], [list(tie)],
                      [([0, 0], (0, 1))], [((0, 0), (0, True))], [((0, 0), (False, 1))], [((0, 0),)], [(0, 1)],
                      [((0, 0), (0, 1), (0, 1))], [((0, -1), (0, 1))], [((-1, 0), (0, 1))], [None]):
            self.refuses(BadWeb, "ties", Web, 7, [TWO], thing, None)
        for thing in (None, 5, [], [(0, 0)], [(0, 0), (0, 0)], [(0, 0), (0, 1), (0, 0)], [[0, 0], [0, 1]],
                      [(0, 0), (0, 2)], [(0, 0), (0, True)], {(0, 0): 1, (0, 1): 1}):
            self.refuses(BadWeb, "outer", Web, 7, [TWO], [], thing)
        self.refuses(BadWeb, "outer", Web, 7, [TWO], [tie], [(0, 0)])
        self.refuses(BadWeb, "outer", Web, 7, [TWO, ONE], [tie], [(0, 0)])

    def test_limits(self):
        self.assertEqual(len(Web(3, [Rule(3, [1])] * 60, [], []).rules), 60)
        rules = [star(3, 8)] * 51
        legs = [(p, k) for p in range(51) for k in range(8)]
        ties = [(legs[2 * k], legs[2 * k + 1]) for k in range(200)]
        self.assertEqual(len(Web(3, rules, ties, legs[400:]).ties), 200)
        self.refuses(BadWeb, "ties", Web, 3, rules, ties + [(legs[400], legs[401])], legs[402:])
        self.refuses(BadWeb, "outer", Web, 3, [star(3, 8), Rule(3, [1, 1])], [], legs[:9])
        self.assertEqual(len(Web(97, [star(97, 8)], [], legs[:8]).outer), 8)

    def test_plain_sum(self):
        chance = chance_of(20)
        for _ in range(60):
            web = some_web(chance, chance.choice((3, 7, 97)), chance.randrange(5), chance.randrange(6))
            self.assertEqual(plain_sum(web), Rule(web.prime, brute_sum(web)))

    def test_plain_sum_by_hand(self):
        self.assertEqual(plain_sum(Web(3, [], [], [])), Rule(3, [1]))
        self.assertEqual(plain_sum(Web(7, [NONE, NONE], [], [])), Rule(7, [2]))
        self.assertEqual(plain_sum(Web(7, [TWO], [((0, 0), (0, 1))], [])), Rule(7, [5]))
        self.assertEqual(plain_sum(Web(7, [TWO], [], [(0, 1), (0, 0)])), Rule(7, [1, 3, 2, 4]))
        web = Web(7, [TWO, ONE], [((0, 1), (1, 0))], [(0, 0)])
        self.assertEqual(plain_sum(web), Rule(7, [1 * 1 + 2 * 2, (3 * 1 + 4 * 2) % 7]))

    def test_plain_sum_limit(self):
        chance = chance_of(21)
        legs = [(p, k) for p in range(2) for k in range(8)]
        rules = [some_rule(chance, 7, 8), some_rule(chance, 7, 8)]
        ties = [(legs[k], legs[8 + k]) for k in range(4)]
        web = Web(7, rules, ties, legs[4:8] + legs[12:])
        self.assertEqual(plain_sum(web), Rule(7, brute_sum(web)))
        rules.append(Rule(7, [1, 2]))
        rules.append(Rule(7, [1, 2]))
        self.refuses(TooMany, 12, plain_sum, Web(7, rules, ties + [((2, 0), (3, 0))], legs[4:8] + legs[12:]))
        for thing in ODD_THINGS:
            self.refuses(BadWeb, None, plain_sum, thing)

    def test_part(self):
        web = Web(7, [TWO, ONE, TWO, NONE], [((0, 1), (2, 0)), ((0, 0), (1, 0))], [(2, 1)])
        self.assertEqual(part(web, [0, 2]), Web(7, [TWO, TWO], [((0, 1), (1, 0))], [(0, 0), (1, 1)]))
        self.assertEqual(part(web, (1, 2)), Web(7, [ONE, TWO], [], [(0, 0), (1, 0), (1, 1)]))
        self.assertEqual(part(web, []), Web(7, [], [], []))
        swapped = Web(7, [TWO, ONE], [], [(1, 0), (0, 1), (0, 0)])
        self.assertEqual(part(swapped, [0, 1]), Web(7, [TWO, ONE], [], [(0, 0), (0, 1), (1, 0)]))
        for thing in (None, [4], [-1], [1, 0], [1, 1], [True], "0", {0: 1}, [0.0], 0):
            self.refuses(BadNumber, "places", part, web, thing)
        self.refuses(BadWeb, None, part, None, None)
        legs = [(p, k) for p in range(2) for k in range(8)]
        big = Web(3, [star(3, 8), star(3, 8)], [(legs[k], legs[15 - k]) for k in range(8)], [])
        self.assertEqual(len(part(big, [1]).outer), 8)
        nine = Web(3, [star(3, 8)] * 3, [((0, k), (2, k)) for k in range(5)] + [((1, k), (2, k + 5)) for k in range(3)]
                   + [((0, k + 5), (1, k + 3)) for k in range(3)], [(1, 6), (1, 7)])
        self.refuses(BadWeb, "outer", part, nine, [0, 1])

    def test_pieces(self):
        web = Web(7, [TWO, ONE, TWO, NONE, ONE], [((0, 1), (2, 0)), ((1, 0), (4, 0))], [(2, 1), (0, 0)])
        self.same(pieces(web), [[0, 2], [1, 4], [3]])
        self.same(pieces(Web(7, [], [], [])), [])
        self.assertIsNot(pieces(web), pieces(web))
        self.refuses(BadWeb, None, pieces, 0)

    def test_faces(self):
        self.same(faces(Web(7, [NONE], [], [])), [((0, 0),)])
        self.same(faces(Web(7, [], [], [])), [])
        self.same(faces(Web(7, [TWO], [((0, 0), (0, 1))], [])), [((0, 0),), ((0, 1),)])
        edge = Web(7, [ONE, ONE], [((0, 0), (1, 0))], [])
        self.same(faces(edge), [((0, 0), (1, 0))])
        # Outer legs 0 and 1 are tied to the legs 1 and 0 of outside, which is place 1.
        self.same(faces(Web(7, [TWO], [], [(0, 0), (0, 1)])), [((0, 0), (1, 0)), ((0, 1), (1, 1))])
        crossed = Web(7, [star(7, 4)], [((0, 0), (0, 2)), ((0, 1), (0, 3))], [])
        self.same(faces(crossed), [((0, 0), (0, 3), (0, 2), (0, 1))])
        self.refuses(BadWeb, None, faces, None)

    def test_flat(self):
        four = star(7, 4)
        self.assertTrue(is_flat(Web(7, [four], [((0, 0), (0, 1)), ((0, 2), (0, 3))], [])))
        self.assertTrue(is_flat(Web(7, [four], [((0, 0), (0, 3)), ((0, 1), (0, 2))], [])))
        self.assertFalse(is_flat(Web(7, [four], [((0, 0), (0, 2)), ((0, 1), (0, 3))], [])))
        legs = [(0, k) for k in range(4)]
        for order, flat in (((0, 1, 2, 3), True), ((2, 3, 0, 1), True), ((0, 2, 1, 3), False), ((3, 2, 1, 0), False)):
            self.assertEqual(is_flat(Web(7, [four], [], [legs[k] for k in order])), flat)
        twos = Web(7, [TWO, TWO], [], [(0, 0), (1, 0), (1, 1), (0, 1)])
        self.assertTrue(is_flat(twos))
        self.assertFalse(is_flat(Web(7, [TWO, TWO], [], [(0, 0), (1, 0), (0, 1), (1, 1)])))
        self.assertTrue(is_flat(Web(7, [], [], [])))
        self.assertTrue(is_flat(Web(7, [NONE, NONE], [], [])))
        self.refuses(BadWeb, None, is_flat, [])

    def test_flat_against_drawn_webs(self):
        chance = chance_of(22)
        for _ in range(30):
            web = some_flat_web(chance, 7, chance.randrange(1, 5), chance.randrange(6))
            self.assertTrue(is_flat(web))
        found = set()
        for _ in range(60):
            web = some_web(chance, 7, 3, 5, 0)
            rings = [[None] * rule.legs for rule in web.rules]
            for number, tie in enumerate(web.ties):
                for side, (place, k) in enumerate(tie):
                    rings[place][k] = (number, side)
            self.assertEqual(is_flat(web), is_sphere(rings))
            found.add(is_flat(web))
        self.assertEqual(found, {True, False})

    def test_faces_go_on(self):
        chance = chance_of(23)
        for _ in range(30):
            web = some_web(chance, 7, 4, 5)
            many = len(web.outer)
            counts = [rule.legs for rule in web.rules] + [many]
            ends = {}
            for one, other in list(web.ties) + [(leg, (4, many - 1 - k)) for k, leg in enumerate(web.outer)]:
                ends[one], ends[other] = other, one
            found = faces(web)
            self.assertEqual(found, sorted(found))
            legs = [leg for face in found for leg in face]
            bare = [(p, 0) for p in range(4) if counts[p] == 0]
            self.assertEqual(sorted(legs), sorted(list(ends) + bare))
            for face in found:
                self.assertEqual(face[0], min(face))
                for k, leg in enumerate(face):
                    if leg in ends:
                        place, j = ends[leg]
                        self.assertEqual(face[(k + 1) % len(face)], (place, (j + 1) % counts[place]))
