from itertools import combinations, permutations

from helpers import ODD_THINGS, Case, chance_of, some_web
from test_limits import pairs_web
from test_lines import CROSSED, FLAT

from onebasis.errors import BadNumber, BadRoad, BadWeb, TooMany
from onebasis.roads import best_road, fence_of, is_fence, road_width
from onebasis.rules import Rule
from onebasis.webs import Web

BAD_ROADS = ODD_THINGS[:6] + [[], [0], [0, 0], [0, 2], [-1, 0], [0, True], [0, 1.0], [0, 1, 1], "01", {0: 1, 1: 0}]


def plain_loose(web, places):
    """How many legs of the places stand in no tie among them, leg by leg."""
    within = [leg for tie in web.ties if tie[0][0] in places and tie[1][0] in places for leg in tie]
    return sum((p, k) not in within for p in places for k in range(web.rules[p].legs))


def plain_width(web, road):
    return max(plain_loose(web, road[:k]) for k in range(len(road) + 1))


def plainly_fence(web, width, lots):
    """Whether lots of places, as tuples, are a fence, straight from the words of the document."""
    many = len(web.rules)
    if len(set(lots)) != len(lots) or () not in lots or tuple(range(many)) in lots:
        return False
    for lot in lots:
        for place in set(range(many)) - set(lot):
            more = tuple(sorted(lot + (place,)))
            if more not in lots and plain_loose(web, more) <= width:
                return False
    return True


class Roads(Case):
    def test_by_hand(self):
        self.same(best_road(CROSSED), [0, 1])
        self.same(road_width(CROSSED, [0, 1]), 3)
        self.assertIs(is_fence(CROSSED, 2, [[]]), True)
        self.same(fence_of(CROSSED, 2), [[]])
        self.assertIsNone(fence_of(CROSSED, 3))
        empty = Web(5, [], [], [])
        self.same(best_road(empty), [])
        self.same(road_width(empty, []), 0)
        self.assertIsNone(fence_of(empty, 0))
        self.assertIs(is_fence(empty, 0, [[]]), False)
        outer = Web(5, [FLAT.rules[0]], [], [(0, 0), (0, 1), (0, 2)])
        self.same(road_width(outer, (0,)), 3)

    def test_widths_and_best_roads(self):
        chance = chance_of(480)
        for number in range(60):
            web = some_web(chance, 3, chance.randrange(1, 6), chance.randrange(10))
            every = [list(road) for road in permutations(range(len(web.rules)))]
            for road in chance.sample(every, min(4, len(every))):
                self.same(road_width(web, road), plain_width(web, road))
            widths = {tuple(road): plain_width(web, road) for road in every}
            least = min(widths.values())
            self.same(best_road(web), list(min(road for road in widths if widths[road] == least)))
            for width in range(least + 2):
                fence = fence_of(web, width)
                if width >= least:
                    self.assertIsNone(fence)
                else:
                    self.assertEqual(fence, sorted(fence))
                    self.assertTrue(all(type(lot) is list and lot == sorted(lot) for lot in fence))
                    self.assertTrue(plainly_fence(web, width, [tuple(lot) for lot in fence]))
                    self.assertIs(is_fence(web, width, fence), True)

    def test_is_fence_of_all_lots(self):
        chance = chance_of(481)
        found = {True: 0, False: 0}
        for number in range(25):
            web = some_web(chance, 3, 3, chance.randrange(2, 7))
            lots = [lot for many in range(4) for lot in combinations(range(3), many)]
            for width in range(5):
                for chosen in range(1 << len(lots)):
                    told = [lot for k, lot in enumerate(lots) if chosen >> k & 1]
                    if chosen % 7 == number % 7:
                        wanted = plainly_fence(web, width, told)
                        self.assertIs(is_fence(web, width, [list(lot) for lot in told]), wanted)
                        self.assertIs(is_fence(web, width, tuple(told[::-1])), wanted)
                        found[wanted] += 1
        self.assertGreater(min(found.values()), 50)

    def test_is_fence_of_any_value(self):
        for thing in ODD_THINGS + [[None], [[], None], [[], [1, 0]], [[], [0, 0]], [[], [2]], [[], [True]], [[], []],
                                   [[], ()], [[], [0], (0,)], [[], [0.0]], [[], [-1]], {(): 1}, [{}], [[], "0"], [[0]],
                                   [[], [0, 1]]]:
            self.assertIs(is_fence(CROSSED, 2, thing), False, thing)
        self.assertIs(is_fence(CROSSED, 2, ((),)), True)
        self.assertIs(is_fence(CROSSED, 3, [[]]), False)

    def test_at_the_limits(self):
        web = pairs_web(3, Rule(3, [1] * 256))
        self.same(road_width(web, list(range(60))), 8)
        self.same(road_width(web, list(range(0, 60, 2)) + list(range(1, 60, 2))), 200)
        self.assertIs(is_fence(web, 7, [[]]), False)
        lone = [[place] for place in range(50, 60)]
        self.assertIs(is_fence(web, 480, [[]]), False)
        self.assertIs(is_fence(web, 7, [[]] + lone), False)
        every = [[50 + k for k in range(10) if number >> k & 1] for number in range(1 << 10)]
        self.assertIs(is_fence(web, 7, every), True)
        self.assertIs(is_fence(web, 8, every), False)
        nine = Web(3, [Rule(3, [1, 1])] * 8 + [Rule(3, [1] * 256)], [((k, 0), (8, k)) for k in range(8)], [])
        self.same(best_road(nine), [0, 1, 2, 3, 8, 4, 5, 6, 7])
        self.assertIsNone(fence_of(nine, 4))
        self.assertTrue(is_fence(nine, 3, fence_of(nine, 3)))

    def test_refused(self):
        for thing in ODD_THINGS:
            self.refuses(BadWeb, None, road_width, thing, None)
            self.refuses(BadWeb, None, best_road, thing)
            self.refuses(BadWeb, None, is_fence, thing, None, None)
            self.refuses(BadWeb, None, fence_of, thing, None)
            self.refuses(BadNumber, "width", is_fence, FLAT, thing, None)
            self.refuses(BadNumber, "width", fence_of, FLAT, thing)
        for thing in BAD_ROADS:
            self.refuses(BadRoad, None, road_width, FLAT, thing)
        ten = Web(3, [Rule(3, [1])] * 10, [], [])
        self.refuses(TooMany, 9, best_road, ten)
        self.refuses(TooMany, 9, fence_of, ten, 0)
        self.refuses(BadNumber, "width", fence_of, ten, 481)
        self.refuses(BadNumber, "width", is_fence, ten, 481, [])
