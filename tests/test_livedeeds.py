"""Deeds of live webs: where new legs come, which tie comes into the course, and what is refused, in its order."""

from formhelpers import some_even_rule
from helpers import ODD_THINGS, Case, brute_sum, chance_of
from test_limits import pairs_web

from onebasis.courses import ring
from onebasis.drawings import live_of
from onebasis.errors import BadLive, BadNumber, TooMany
from onebasis.lives import Live
from onebasis.rules import Rule
from onebasis.webs import Web, is_flat

ZERO = [Rule(7, [1] + [0] * ((1 << legs) - 1)) for legs in range(9)]
NONE = [None, None] + [Rule(7, [1] * (1 << legs)) for legs in range(2, 9)]


def pair_of_twos():
    """Two places with two ties, both faces between them."""
    live = Live(7)
    live.add(ZERO[0])
    live.add(ZERO[0])
    live.draw((0, 0), (1, 0), [ZERO[1], ZERO[1]])
    live.draw((0, 1), (1, 0), [ZERO[2], ZERO[2]])
    return live


def ladder(pairs, rungs):
    """Pairs of places with so many ties each, in two rows along which they are tied, too; and both rows' ties."""
    rules, ties, rows = [], [], []
    for n in range(pairs):
        # Legs of an upper place: back, rungs from left to right, forth; of a lower one: forth, rungs, back.
        upper = (["back"] if n else []) + list(range(rungs)) + (["forth"] if n < pairs - 1 else [])
        lower = (["forth"] if n < pairs - 1 else []) + list(range(rungs))[::-1] + (["back"] if n else [])
        rules += [ZERO[len(upper)], ZERO[len(lower)]]
        ties += [((2 * n, upper.index(k)), (2 * n + 1, lower.index(k))) for k in range(rungs)]
        if n < pairs - 1:
            rows.append(((2 * n, upper.index("forth")), (2 * n + 2, 0)))
            # The last lower place has no leg that leads forth.
            rows.append(((2 * n + 1, 0), (2 * n + 3, rungs + (1 if n < pairs - 2 else 0))))
    return Web(7, rules, ties + rows, []), rows


class LiveDeeds(Case):
    def test_corners_of_one_place(self):
        # Legs 0 .. 3 of one place, tied as 0-1 and 2-3; a tie is drawn between any two corners of one face.
        for one, other, wanted in (((0, 0), (0, 0), ((0, 0), (0, 1))), ((0, 0), (0, 2), ((0, 0), (0, 3))),
                                   ((0, 2), (0, 0), ((0, 0), (0, 3))), ((0, 0), (0, 4), ((0, 0), (0, 5))),
                                   ((0, 4), (0, 2), ((0, 2), (0, 5))), ((0, 4), (0, 4), ((0, 4), (0, 5))),
                                   ((0, 1), (0, 1), ((0, 1), (0, 2)))):
            live = Live(7)
            live.add(ZERO[0])
            live.draw((0, 0), (0, 0), [ZERO[2]])
            live.draw((0, 2), (0, 2), [ZERO[4]])
            self.assertEqual(live.web().ties, (((0, 0), (0, 1)), ((0, 2), (0, 3))))
            live.draw(one, other, [ZERO[6]])
            self.assertIn(wanted, live.web().ties)
            self.assertTrue(is_flat(live.web()))
            self.assertEqual(live.course(), [])
        for one, other in (((0, 0), (0, 1)), ((0, 3), (0, 2)), ((0, 1), (0, 3)), ((0, 4), (0, 1))):
            live = Live(7)
            live.add(ZERO[0])
            live.draw((0, 0), (0, 0), [ZERO[2]])
            live.draw((0, 2), (0, 2), [ZERO[4]])
            self.refuses(BadLive, "flat", live.draw, one, other, [ZERO[6]])

    def test_which_leg_is_one(self):
        # The new legs are told apart by what is drawn to them: one's rule knows which leg is which.
        live = Live(7)
        live.add(ZERO[0])
        live.add(ZERO[0])
        live.draw((0, 0), (1, 0), [ZERO[1], ZERO[1]])
        live.draw((1, 1), (0, 0), [ZERO[2], ZERO[2]])
        self.same(live.web().ties, (((0, 0), (1, 1)), ((0, 1), (1, 0))))
        live.draw((0, 2), (1, 0), [ZERO[3], ZERO[3]])
        self.same(live.web().ties, (((0, 0), (1, 2)), ((0, 1), (1, 1)), ((0, 2), (1, 0))))
        self.same(live.course(), [((0, 1), (1, 1))])
        self.same(live.deeds()[-1], ("draw", (0, 2), (1, 0), (ZERO[3].table, ZERO[3].table)))

    def test_drop_and_the_course(self):
        live = pair_of_twos()
        first, second = live.web().ties
        self.same(live.course(), [((0, 0), (1, 1))])
        live.drop(second, [ZERO[1], ZERO[1]])
        self.same((live.course(), live.web().ties), ([((0, 0), (1, 0))], (((0, 0), (1, 0)),)))
        live.undo()
        live.drop(first, [ZERO[1], ZERO[1]])
        self.same((live.course(), live.web().ties), ([((0, 0), (1, 0))], (((0, 0), (1, 0)),)))
        live.drop(((0, 0), (1, 0)), [ZERO[0], ZERO[0]])
        self.same((live.course(), live.web().ties), ([], ()))
        # A ring of three, with two ties at one side: the least one of those that join again.
        live = Live(7)
        for _ in range(3):
            live.add(ZERO[0])
        live.draw((0, 0), (1, 0), [ZERO[1]] * 2)
        live.draw((1, 1), (2, 0), [ZERO[2], ZERO[1]])
        live.draw((2, 1), (0, 0), [ZERO[2], ZERO[2]])
        live.draw((2, 2), (0, 0), [ZERO[3], ZERO[3]])
        self.same(live.web().ties, (((0, 0), (2, 2)), ((0, 1), (2, 1)), ((0, 2), (1, 0)), ((1, 1), (2, 0))))
        live.drop(((0, 2), (1, 0)), [ZERO[2], ZERO[1]])
        self.same(live.course(), [((1, 0), (2, 0)), ((0, 0), (2, 2))])

    def test_drop_of_a_loop(self):
        live = Live(7)
        live.add(Rule(7, [3]))
        live.draw((0, 0), (0, 0), [Rule(7, [1, 0, 0, 5])])
        self.same(live.whole_sum(), 6)
        self.refuses(BadLive, "rules", live.drop, ((0, 0), (0, 1)), [ZERO[1], ZERO[1]])
        live.drop(((0, 0), (0, 1)), [Rule(7, [4])])
        self.same((live.whole_sum(), live.web().ties), (4, ()))

    def test_add_and_put_refused(self):
        live = pair_of_twos()
        for thing in ODD_THINGS + [ZERO[1], Rule(5, [1])]:
            self.refuses(BadLive, "rules", live.add, thing)
        for thing in ODD_THINGS + [2]:
            self.refuses(BadLive, "place", live.put, thing, None)
        for thing in ODD_THINGS + [ZERO[1], ZERO[3], Rule(5, [1] * 4), [ZERO[2]]]:
            self.refuses(BadLive, "rules", live.put, 1, thing)
        self.refuses(BadLive, "forms", live.put, 0, NONE[2])
        self.same(len(live.deeds()), 4)

    def test_draw_refused(self):
        live = pair_of_twos()
        good = [ZERO[3], ZERO[3]]
        for thing in ODD_THINGS + [(2, 0), (0, 3), (-1, 0), (0, -1), (0,), (0, 0, 0), [0, 0], (True, 0), (0, False)]:
            self.refuses(BadLive, "one", live.draw, thing, None, None)
            self.refuses(BadLive, "other", live.draw, (0, 0), thing, None)
        # Faces: between legs 0 and 1 of the one place and 1 and 0 of the other one.
        self.refuses(BadLive, "flat", live.draw, (0, 0), (1, 1), None)
        self.refuses(BadLive, "flat", live.draw, (0, 2), (1, 1), good)
        self.refuses(BadLive, "flat", live.draw, (0, 0), (0, 1), None)
        for thing in ODD_THINGS + [good[:1], good * 2, [ZERO[3], None], [ZERO[3], ZERO[2]], [ZERO[4], ZERO[3]], ZERO[3],
                                   [ZERO[3], Rule(5, [1] + [0] * 7)], {0: ZERO[3], 1: ZERO[3]}, [NONE[2], ZERO[3]]]:
            self.refuses(BadLive, "rules", live.draw, (0, 0), (1, 2), thing)
        for thing in ([], good, [ZERO[3]], [None], [Rule(5, [1] + [0] * 15)]):
            self.refuses(BadLive, "rules", live.draw, (0, 0), (0, 2), thing)
        self.refuses(BadLive, "forms", live.draw, (0, 0), (1, 2), [NONE[3], ZERO[3]])
        self.refuses(BadLive, "forms", live.draw, (0, 0), (1, 2), (ZERO[3], NONE[3]))
        self.refuses(BadLive, "forms", live.draw, (0, 0), (0, 2), [NONE[4]])
        live.draw((0, 0), (1, 2), tuple(good))
        self.same(len(live.web().ties), 3)

    def test_drop_refused(self):
        live = pair_of_twos()
        tie = live.web().ties[0]
        for thing in ODD_THINGS + [tie[::-1], list(tie), ((0, 0), (1, 0)), ((False, 0), (1, 1)), (tie,)]:
            self.refuses(BadLive, "tie", live.drop, thing, None)
            self.refuses(BadNumber, "tie", live.share_of, thing)
        for thing in ODD_THINGS + [[ZERO[1]], [ZERO[1]] * 3, [ZERO[1], ZERO[2]], [ZERO[1], None], [Rule(5, [1, 0])] * 2]:
            self.refuses(BadLive, "rules", live.drop, tie, thing)
        live.draw((0, 0), (1, 2), [ZERO[3], ZERO[3]])
        self.refuses(BadLive, "forms", live.drop, live.web().ties[0], [ZERO[2], NONE[2]])

    def test_undo_and_redo_refused(self):
        live = Live(7)
        self.refuses(BadLive, "undo", live.undo)
        self.refuses(BadLive, "redo", live.redo)
        live.add(ZERO[0])
        self.refuses(BadLive, "redo", live.redo)
        self.assertIsNone(live.undo())
        self.refuses(BadLive, "undo", live.undo)
        self.assertIsNone(live.redo())
        self.refuses(BadLive, "redo", live.redo)
        live.undo()
        live.add(Rule(7, [3]))
        self.refuses(BadLive, "redo", live.redo)
        self.same(live.deeds(), [("add", (1,)), ("undo",), ("redo",), ("undo",), ("add", (3,))])

    def test_numbers_refused(self):
        live = pair_of_twos()
        for thing in ODD_THINGS + [3]:
            self.refuses(BadNumber, "region", live.region_form, thing)
            self.refuses(BadNumber, "region", live.surrounding, thing)
        for thing in ODD_THINGS + [2]:
            self.refuses(BadNumber, "place", live.facing, thing)
        self.assertEqual(live.region_form(2).legs, 0)

    def test_do_refused(self):
        live = pair_of_twos()
        for thing in ODD_THINGS + [("add",), ("add", (1,), 0), ["add", (1,)], ("add", None), ("add", 5), ("plus", (1,)),
                                   (None, (1,)), (["add"], (1,)), ("put", 0), ("put", 0, None), ("put", 0, "1,2"),
                                   ("draw", (0, 0), (1, 0)), ("draw", (0, 0), (1, 0), None), ("undo", 0), ("redo", 0),
                                   ("draw", (0, 0), (1, 0), (1, 2)), ("draw", (0, 0), (1, 0), ((1, 0), None)),
                                   ("drop", None, (1,)), ("drop", None), ("add", {0: 1}), ("web",), ("whole_sum",)]:
            self.refuses(BadLive, "deed", live.do, thing)
        for thing in (("add", ()), ("add", (7,)), ("add", (True,)), ("put", 9, (1, 2, 3)), ("put", 9, [None]),
                      ("draw", None, None, ((1, 2), (1, 2, 3))), ("drop", None, [[1.0]]), ("drop", None, ((-1,),))):
            self.refuses(BadLive, "rules", live.do, thing)
        self.refuses(BadLive, "rules", live.do, ("add", (1, 0)))
        self.refuses(BadLive, "place", live.do, ("put", 9, (1, 2)))
        self.refuses(BadLive, "one", live.do, ("draw", None, None, ()))
        self.refuses(BadLive, "tie", live.do, ("drop", None, [[1, 2]]))
        live.do(("draw", (0, 0), (1, 2), [list(ZERO[3].table), ZERO[3].table]))
        self.same(live.deeds()[-1], ("draw", (0, 0), (1, 2), (ZERO[3].table, ZERO[3].table)))
        live.do(("put", 0, [0] * 8))
        self.same(live.deeds()[-1], ("put", 0, (0,) * 8))
        live.do(("undo",))
        self.refuses(BadLive, "undo", Live(7).do, ("undo",))

    def test_sixty_places(self):
        live = Live(7)
        for _ in range(60):
            live.add(ZERO[0])
        self.refuses(TooMany, 60, live.add, ZERO[0])
        self.refuses(BadLive, "rules", live.add, ZERO[1])
        self.same(len(live.web().rules), 60)

    def test_two_hundred_ties(self):
        web = pairs_web(7, ZERO[8])
        live = live_of(web, [((2 * n, 0), (2 * n + 1, 7)) for n in range(25)])
        self.assertEqual(live.web(), web)
        self.same(live.whole_sum(), 2 ** 10 % 7)
        self.refuses(TooMany, 200, live.draw, (50, 0), (51, 0), [ZERO[1], ZERO[1]])
        self.refuses(BadLive, "forms", live.draw, (50, 0), (50, 0), [NONE[2]])
        self.refuses(BadLive, "rules", live.draw, (0, 0), (51, 0), [ZERO[8], ZERO[1]])

    def test_rings_that_are_too_long(self):
        web, rows = ladder(6, 6)
        self.assertTrue(is_flat(web))
        rung = ((0, 0), (1, 6))
        self.assertIn(rung, web.ties)
        # Along the ladder the rings stay short; row by row they hold all rungs.
        live = live_of(web, [rung] + rows)
        self.assertEqual((live.web(), live.course()), (web, [rung] + rows))
        self.same(live.whole_sum(), 1)
        rules = [Rule(7, ZERO[rule.legs - 1].table) for rule in web.rules[:2]]
        self.refuses(TooMany, 60, live.drop, rung, rules)
        self.refuses(BadLive, "forms", live.drop, rung, [rules[0], NONE[6]])
        self.assertEqual(live.web(), web)
        self.refuses(TooMany, 60, live_of, web, rows + [rung])
        # With 31 rungs both rings have 62 legs together.
        told = live_of(*ladder_of(31))
        self.same((len(told.web().ties), told.whole_sum()), (41, 1))
        self.refuses(TooMany, 60, live_of, *ladder_of(32))
        rings = [len(ring(told.web(), told.course(), k)) for k in range(23)]
        self.same([told.region_form(k).legs for k in range(23)], rings)
        self.same([told.surrounding(k).legs for k in range(23)], rings)
        self.same(max(rings), 31)

    def test_sums_of_a_drawn_web(self):
        chance = chance_of(930)
        web, rows = ladder(3, 2)
        rules = [some_even_rule(chance, 7, rule.legs) for rule in web.rules]
        web = Web(7, rules, web.ties, [])
        live = live_of(web, rows + [web.ties[0]])
        self.same(live.whole_sum(), brute_sum(web)[0])


def ladder_of(rungs):
    """The ladder of six pairs with just so many rungs, and the course row by row."""
    web, rows = ladder(6, 6)
    gone = sorted(set(web.ties) - set(rows))[rungs:]
    legs = [leg for tie in gone for leg in tie]
    now = {}
    for place, rule in enumerate(web.rules):
        left = [(place, k) for k in range(rule.legs) if (place, k) not in legs]
        now.update({leg: (place, k) for k, leg in enumerate(left)})
    counts = [sum(leg[0] == place for leg in now) for place in range(len(web.rules))]
    ties = [(now[one], now[other]) for one, other in web.ties if one in now]
    first = sorted(set(web.ties) - set(rows))[0]
    course = [tuple(sorted((now[one], now[other]))) for one, other in rows + [first]]
    return Web(7, [ZERO[many] for many in counts], ties, []), course
