from formhelpers import some_even_rule, some_formed_rule
from helpers import ODD_THINGS, Case, at, brute_sum, chance_of, grid_web, some_flat_web, swept_sum
from test_courses import some_course
from test_lines import CROSSED, FLAT

from onebasis.courses import course_of
from onebasis.drawings import drawn, live_of
from onebasis.errors import BadCourse, BadLive, BadWeb
from onebasis.lives import Live
from onebasis.rules import Rule
from onebasis.webs import Web


def plainly_drawn(web, course):
    """The deeds that draw a web, leg by leg."""
    deeds = [("add", (rule.table[0],)) for rule in web.rules]
    legs = {place: [] for place in range(len(web.rules))}
    for one, other in list(course) + sorted(set(web.ties) - set(course)):
        corners = [(p, sum(j < k for j in legs[p])) for p, k in (one, other)]
        legs[one[0]].append(one[1])
        legs[other[0]].append(other[1])
        tables = []
        for place in dict.fromkeys([one[0], other[0]]):
            own = sorted(legs[place])
            table = []
            for number in range(1 << len(own)):
                told = dict(zip(own, [number >> (len(own) - 1 - k) & 1 for k in range(len(own))]))
                table.append(at(web.rules[place], [told.get(k, 0) for k in range(web.rules[place].legs)]))
            tables.append(tuple(table))
        deeds.append(("draw", corners[0], corners[1], tuple(tables)))
    return deeds


class Drawings(Case):
    def test_by_hand(self):
        r = (0, 1, 1, 0, 1, 0, 0, 3)
        self.same(drawn(FLAT, [FLAT.ties[1]]), [
            ("add", (0,)), ("add", (0,)), ("draw", (0, 0), (1, 0), ((0, 1), (0, 1))),
            ("draw", (0, 0), (1, 0), ((0, 1, 1, 0), (0, 1, 1, 0))), ("draw", (0, 2), (1, 1), (r, r))])
        loop = Web(7, [Rule(7, [1, 0, 0, 5])], [((0, 0), (0, 1))], [])
        self.same(drawn(loop, []), [("add", (1,)), ("draw", (0, 0), (0, 0), ((1, 0, 0, 5),))])
        self.same(drawn(Web(7, [], [], []), ()), [])

    def test_all_webs_are_drawn(self):
        chance = chance_of(970)
        met = 0
        for number in range(80):
            make = (some_formed_rule, some_even_rule)[number % 2]
            web = some_flat_web(chance, (3, 97)[number % 2], chance.randrange(1, 6), chance.randrange(9), make)
            for course in (course_of(web), some_course(chance, web)):
                deeds = drawn(web, course)
                self.same(deeds, plainly_drawn(web, course))
                live = live_of(web, tuple(course))
                self.assertIs(type(live), Live)
                self.assertEqual(live.web(), web)
                self.same((live.course(), live.deeds(), live.made()), (course, deeds, 0))
                self.same(live.whole_sum(), brute_sum(web)[0])
                met += live.whole_sum() != 0
        self.assertGreater(met, 40)

    def test_many_ties(self):
        chance = chance_of(971)
        web = grid_web(chance, 97, 3, 10, 0, some_even_rule)
        for course in (course_of(web), some_course(chance, web)):
            live = live_of(web, course)
            self.assertEqual((live.web(), live.course()), (web, course))
            self.same([live.whole_sum()], swept_sum(web))
            shares = [live.share_of(tie) for tie in web.ties]
            self.assertGreater(len(set(shares)), 10)
            for region in (0, 29, 31, 40, 57, 58):
                form, further = live.region_form(region), live.surrounding(region)
                self.assertEqual(form.legs, further.legs)

    def test_refused(self):
        none = Rule(5, [1] * 8)
        unformed = Web(5, [FLAT.rules[0], none], FLAT.ties, [])
        outer = Web(5, [FLAT.rules[0]], [], [(0, 0), (0, 1), (0, 2)])
        for call in (drawn, live_of):
            for thing in ODD_THINGS:
                self.refuses(BadWeb, None, call, thing, None)
            for web in (CROSSED, unformed, outer):
                self.refuses(BadLive, "web", call, web, None)
            for thing in (None, 5, [], [FLAT.ties[0], FLAT.ties[1]], [((0, 0), (1, 1))], FLAT.ties[0]):
                self.refuses(BadCourse, None, call, FLAT, thing)
