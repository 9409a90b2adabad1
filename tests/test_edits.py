from helpers import ODD_THINGS, Case, at, brute_sum, chance_of, some_flat_web, some_rule, some_web, table_of

from onebasis.edits import edited, is_edit
from onebasis.errors import BadEdit, BadWeb, NotLet
from onebasis.rules import Rule
from onebasis.webs import Web, is_flat

GOOD = [
    ("rule", 0, (0,)), ("rule", 10 ** 9, (96,) * 256), ("add", (1, 2)), ("add", (5,)), ("tie", (0, 0), (0, 0)),
    ("tie", (10 ** 9, 10 ** 9), (0, 1)), ("cut", (0, 0)), ("swap", 0), ("swap", 10 ** 9), ("turn", 5, 10 ** 9),
    ("flip", (1, 1)), ("merge", (2, 3)),
]
BAD = [
    (), ("rule",), ("rule", 0), ("rule", 0, [0]), ("rule", 0, (97,)), ("rule", 0, (0, 0, 0)), ("rule", 0, ()),
    ("rule", 0, (0,), 0), ("rule", True, (0,)), ("rule", -1, (0,)), ("rule", 10 ** 9 + 1, (0,)), ("add", (True,)),
    ("add", (1,) * 512), ("add", 1), ("add", ((1,),)), ("tie", (0, 0)), ("tie", [0, 0], (0, 1)), ("tie", 0, 1),
    ("tie", (0, 0, 0), (0, 1)), ("cut", (0, False)), ("cut", (0, -1)), ("cut", 0), ("cut", (0,)), ("swap", None),
    ("swap", 1.0), ("swap", "1"), ("turn", 0), ("turn", 0, -1), ("flip",), ("flip", (0, 10 ** 9 + 1)), ("merge",),
    ("merge", (0, 0), (0, 1)), ("swop", 0), ["swap", 0], ["cut", (0, 0)], "swap", (b"swap", 0), (None, 0), (0,),
    (("swap", 0),), ({}, 0), ([], 0), ("rule", 0, {}),
]


def row_of_places(places):
    """Places with two legs, each tied to the next one, with an outer leg at both ends."""
    ties = [((k, 1), (k + 1, 0)) for k in range(places - 1)]
    return Web(3, [Rule(3, [1, 2, 0, 1])] * places, ties, [(0, 0), (places - 1, 1)])


class Edits(Case):
    def test_is_edit(self):
        for edit in GOOD:
            self.assertIs(is_edit(edit), True, edit)
        for thing in BAD + ODD_THINGS:
            self.assertIs(is_edit(thing), False, thing)

    def test_no_edit(self):
        web = row_of_places(2)
        for thing in BAD + ODD_THINGS:
            self.refuses(BadEdit, None, edited, web, thing)
            if not isinstance(thing, Web):
                self.refuses(BadWeb, None, edited, thing, ("swap", 0))
        self.refuses(BadWeb, None, edited, None, None)

    def test_rule_and_add(self):
        web = row_of_places(2)
        told = edited(web, ("rule", 1, (2, 2, 1, 0)))
        self.assertEqual(told, Web(3, [web.rules[0], Rule(3, [2, 2, 1, 0])], web.ties, web.outer))
        more = edited(web, ("add", (1, 1, 1, 1)))
        self.assertEqual(more.rules, web.rules + (Rule(3, [1] * 4),))
        self.same(more.outer, ((0, 0), (1, 1), (2, 0), (2, 1)))
        self.assertEqual(edited(Web(3, [], [], []), ("add", (2,))), Web(3, [Rule(3, [2])], [], []))
        self.assertEqual(web, row_of_places(2))

    def test_tie_cut_swap(self):
        web = row_of_places(2)
        tied = edited(web, ("tie", (1, 1), (0, 0)))
        self.assertEqual(tied, Web(3, web.rules, list(web.ties) + [((0, 0), (1, 1))], []))
        for leg in ((0, 0), (1, 1)):
            self.same(edited(tied, ("cut", leg)).outer, ((0, 0), (1, 1)))
        self.same(edited(web, ("cut", (1, 0))).outer, ((0, 0), (1, 1), (0, 1), (1, 0)))
        self.same(edited(web, ("swap", 0)).outer, ((1, 1), (0, 0)))
        self.assertEqual(edited(edited(web, ("swap", 0)), ("swap", 0)), web)
        four = Web(3, [Rule(3, [1] * 16)], [], [(0, k) for k in range(4)])
        self.same(edited(four, ("swap", 1)).outer, ((0, 0), (0, 2), (0, 1), (0, 3)))
        self.same(edited(four, ("swap", 2)).outer, ((0, 0), (0, 1), (0, 3), (0, 2)))
        self.refuses(NotLet, "leg", edited, four, ("swap", 3))

    def test_turn(self):
        chance = chance_of(85)
        for _ in range(40):
            web = some_web(chance, 7, 3, 4)
            place, many = chance.randrange(3), chance.randrange(9)
            legs = web.rules[place].legs
            told = edited(web, ("turn", place, many))
            self.assertEqual(brute_sum(told), brute_sum(web))
            self.assertEqual(is_flat(told), is_flat(web))

            def now(leg):
                return (place, (leg[1] - many) % legs) if leg[0] == place else leg

            self.assertEqual(told.outer, tuple(now(leg) for leg in web.outer))
            self.assertEqual(told.ties, tuple(sorted(tuple(sorted(now(leg) for leg in tie)) for tie in web.ties)))
            turned = table_of(legs, lambda b: at(web.rules[place], [b[(i - many) % legs] for i in range(legs)]))
            self.assertEqual(told.rules[place].table, tuple(turned))

    def test_flip(self):
        chance = chance_of(86)
        for _ in range(40):
            web = some_web(chance, 7, 3, 4)
            if web.ties:
                tie = chance.choice(web.ties)
                told = edited(web, ("flip", chance.choice(tie)))
                self.assertEqual(brute_sum(told), brute_sum(web))
                self.assertEqual((told.ties, told.outer), (web.ties, web.outer))
                self.assertEqual(edited(told, ("flip", tie[0])), web)
                for place, rule in enumerate(web.rules):
                    flips = [k for at_place, k in tie if at_place == place]
                    told_table = table_of(rule.legs, lambda b: at(rule, [x ^ (k in flips) for k, x in enumerate(b)]))
                    self.assertEqual(told.rules[place].table, tuple(told_table))

    def test_merge(self):
        chance = chance_of(87)
        kinds = set()
        for _ in range(120):
            web = some_web(chance, 7, 3, 4)
            if web.ties:
                one, other = chance.choice(web.ties)
                told = edited(web, ("merge", chance.choice((one, other))))
                kinds.add(one[0] == other[0])
                self.assertEqual(brute_sum(told), brute_sum(web))
                self.assertEqual(len(told.ties), len(web.ties) - 1)
                self.assertEqual(len(told.rules), 3 - (one[0] != other[0]))
                if one[0] != other[0]:
                    self.assertEqual(is_flat(told), is_flat(web))
        self.assertEqual(kinds, {True, False})

    def test_merge_by_hand(self):
        rules = [Rule(7, [1, 2]), Rule(7, [1, 2, 3, 4, 5, 6, 0, 1]), Rule(7, [1, 1, 2, 3])]
        web = Web(7, rules, [((1, 1), (2, 0)), ((0, 0), (2, 1))], [(1, 2), (1, 0)])
        told = edited(web, ("merge", (2, 0)))
        # Place 1 has its legs 2 and 0, then leg 1 of what was place 2.
        self.same(told.ties, (((0, 0), (1, 2)),))
        self.same(told.outer, ((1, 0), (1, 1)))
        self.assertEqual(brute_sum(told), brute_sum(web))

    def test_quiet_edits_keep_flat_webs_flat(self):
        chance = chance_of(88)
        for _ in range(20):
            web = some_flat_web(chance, 7, 3, 4)
            for one, other in web.ties:
                if one[0] != other[0]:
                    self.assertTrue(is_flat(edited(web, ("merge", other))))
                self.assertTrue(is_flat(edited(web, ("flip", one))))
            for place in range(3):
                self.assertTrue(is_flat(edited(web, ("turn", place, 3))))

    def test_not_let(self):
        web = row_of_places(3)
        for edit, why in (
                (("rule", 3, (5,)), "place"), (("rule", 10 ** 9, (1, 1, 1, 1)), "place"), (("turn", 3, 9), "place"),
                (("rule", 0, (1, 1)), "table"), (("rule", 0, (1, 1, 1, 3)), "table"), (("add", (3,)), "table"),
                (("tie", (0, 0), (0, 0)), "leg"), (("tie", (0, 0), (0, 1)), "leg"), (("tie", (0, 0), (9, 9)), "leg"), (("tie", (0, 1), (0, 0)), "leg"),
                (("cut", (0, 0)), "leg"), (("flip", (2, 1)), "leg"), (("merge", (0, 7)), "leg"), (("swap", 1), "leg"),
                (("swap", 10 ** 9), "leg"), (("turn", 0, 9), "many"), (("turn", 2, 10 ** 9), "many"),
                (("add", (1,) * 128), "many")):
            self.refuses(NotLet, why, edited, web, edit)
        self.assertEqual(len(edited(web, ("add", (1,) * 64)).outer), 8)
        self.refuses(NotLet, "table", edited, web, ("add", (3,) * 256))

    def test_limits(self):
        sixty = Web(3, [Rule(3, [1])] * 60, [], [])
        self.refuses(NotLet, "many", edited, sixty, ("add", (1,)))
        five = Rule(3, [1] * 32)
        web = Web(3, [five, five], [((0, 0), (1, 0))], [(p, k) for p in (0, 1) for k in range(1, 5)])
        self.refuses(NotLet, "many", edited, web, ("cut", (0, 0)))
        self.assertEqual(edited(web, ("merge", (1, 0))).rules[0], Rule(3, [2] * 256))
        seven = Web(3, [five, Rule(3, [1] * 16)], web.ties, web.outer[:7])
        self.refuses(NotLet, "many", edited, seven, ("cut", (0, 0)))
        eight = Rule(3, [1] * 256)
        self.assertEqual(len(edited(Web(3, [eight], [((0, 0), (0, 1))], [(0, k) for k in range(2, 8)]),
                                    ("cut", (0, 0))).outer), 8)
        six = Web(3, [Rule(3, [1] * 64), five, Rule(3, [1, 1])], [((0, 0), (1, 0)), ((0, 1), (2, 0))],
                  [(0, k) for k in range(2, 6)] + [(1, k) for k in range(1, 5)])
        self.refuses(NotLet, "many", edited, six, ("merge", (0, 0)))
        rules = [Rule(3, [1] * 256)] * 51
        legs = [(p, k) for p in range(51) for k in range(8)]
        full = Web(3, rules, [(legs[2 * k], legs[2 * k + 1]) for k in range(200)], legs[400:])
        self.refuses(NotLet, "many", edited, full, ("tie", legs[400], legs[401]))
        self.refuses(NotLet, "leg", edited, full, ("tie", legs[400], legs[0]))
        self.refuses(NotLet, "many", edited, full, ("cut", legs[0]))
        self.refuses(NotLet, "leg", edited, full, ("cut", legs[400]))
        self.assertEqual(len(edited(full, ("merge", legs[0])).ties), 199)
