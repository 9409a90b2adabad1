from formhelpers import some_even_rule, some_formed_rule
from helpers import ODD_THINGS, Case, brute_sum, chance_of, some_rule
from livehelpers import (PlainLive, plain_round, plain_surrounding, rules_for, some_deed, unformed_rule)

from onebasis.around import around, with_rule
from onebasis.courses import region_rule, regions, ring
from onebasis.errors import BadLive, BadNumber, TooMany
from onebasis.forms import Form, rule_of
from onebasis.formsums import paired
from onebasis.formturns import mirrored_form
from onebasis.foundforms import form_of
from onebasis.lives import Live
from onebasis.normals import is_normal
from onebasis.rules import Rule
from onebasis.webs import Web, is_flat

ONE = Rule(7, [1])


def told_of(deed, parts):
    """The deed as deeds tells it."""
    told = []
    for part in parts:
        if isinstance(part, Rule):
            part = part.table
        elif isinstance(part, list):
            part = tuple(rule.table for rule in part)
        told.append(part)
    return (deed,) + tuple(told)


def run(chance, prime, many, ask=None):
    """A live web and its model behind made-up deeds, asked something between them."""
    live, model, told = Live(prime), PlainLive(prime), []
    for _ in range(many):
        kind, parts = some_deed(chance, model)
        assert getattr(live, kind)(*parts) is None
        getattr(model, kind)(*parts)
        told.append(told_of(kind, parts))
        if ask:
            ask(live, model)
    return live, model, told


def all_answers(live):
    """All that is asked of a live web, but kept and made."""
    web, many = live.web(), len(live.web().rules) + len(live.course())
    return (web.prime, web.rules, web.ties, live.course(), live.whole_sum(),
            [live.region_form(k).__dict__ for k in range(many)], [live.surrounding(k).__dict__ for k in range(many)],
            [live.facing(k).table for k in range(len(web.rules))], [live.share_of(tie) for tie in web.ties])


class Lives(Case):
    def test_by_hand(self):
        live = Live(7)
        self.same((live.whole_sum(), live.made(), live.course(), live.kept()), (1, 0, [], ([], [])))
        live.add(Rule(7, [2]))
        live.add(Rule(7, [3]))
        self.same((live.whole_sum(), live.made()), (6, 2))
        self.refuses(BadLive, "forms", live.draw, (0, 0), (1, 0), [Rule(7, [2, 0]), Rule(7, [3, 5])])
        live.draw((0, 0), (1, 0), [Rule(7, [2, 0]), Rule(7, [3, 0])])
        tie = ((0, 0), (1, 0))
        self.same((live.course(), live.whole_sum()), ([tie], 6))
        live.put(1, Rule(7, [0, 5]))
        self.same((live.whole_sum(), live.share_of(tie)), (0, 0))
        self.assertEqual((live.facing(1), live.facing(0)), (Rule(7, [2, 0]), Rule(7, [0, 5])))
        self.same(live.deeds(), [("add", (2,)), ("add", (3,)), ("draw", (0, 0), (1, 0), ((2, 0), (3, 0))),
                                 ("put", 1, (0, 5))])
        self.assertEqual(live.web(), Web(7, [Rule(7, [2, 0]), Rule(7, [0, 5])], [tie], []))

    def test_primes(self):
        for thing in ODD_THINGS + [2, 9, 101]:
            self.refuses(BadLive, "prime", Live, thing)
        self.assertEqual(Live(97).web(), Web(97, [], [], []))

    def test_runs(self):
        chance = chance_of(920)
        met = 0

        def ask(live, model):
            web = live.web()
            self.assertEqual(web, model.web())
            self.same(live.course(), model.course())
            self.assertTrue(is_flat(web))
            if chance.randrange(3) == 0:
                self.same(live.whole_sum(), brute_sum(web)[0])

        for number in range(30):
            live, model, told = run(chance, (3, 7)[number % 2], 25, ask)
            self.same(live.deeds(), told)
            met += brute_sum(live.web())[0] != 0
        self.assertGreater(met, 5)

    def test_what_is_asked(self):
        chance = chance_of(921)
        met = 0
        for number in range(40):
            live = run(chance, 7, 22)[0]
            web, course = live.web(), live.course()
            whole = brute_sum(web)[0]
            self.same(live.whole_sum(), whole)
            for k, places in enumerate(regions(web, course)):
                form, further = live.region_form(k), live.surrounding(k)
                legs = ring(web, course, k)
                self.assertIs(type(form), Form)
                self.assertIs(type(further), Form)
                self.assertTrue(is_normal(form) and is_normal(further))
                self.assertEqual((form.legs, further.legs), (len(legs), len(legs)))
                self.assertEqual(rule_of(form), region_rule(web, course, k))
                self.assertEqual(list(rule_of(further).table), plain_surrounding(web, course, k, places))
                self.assertEqual(paired(form, mirrored_form(further)), whole)
                met += any(rule_of(further).table)
            for place, rule in enumerate(web.rules):
                told = live.facing(place)
                self.assertEqual(told, around(web, place, ()))
                self.assertEqual(list(told.table), plain_round(web, [place], [(place, k) for k in range(rule.legs)]))
                other = some_rule(chance, 7, rule.legs)
                weighed = sum(x * y for x, y in zip(other.table, told.table)) % 7
                self.assertEqual([weighed], brute_sum(with_rule(web, place, other)))
            for tie in web.ties:
                self.same(live.share_of(tie), brute_sum(web, {tie: 1})[0])
        self.assertGreater(met, 60)

    def test_undone_and_done_again(self):
        chance = chance_of(922)
        for number in range(25):
            live, model, told = run(chance, 7, 20, lambda live, model: chance.randrange(4) or all_answers(live))
            stand = []
            back = []
            for deed in told:
                if deed == ("undo",):
                    back.append(stand.pop())
                elif deed == ("redo",):
                    stand.append(back.pop())
                else:
                    stand.append(deed)
                    back = []
            other = Live(7)
            for deed in stand:
                self.assertIsNone(other.do(deed))
            self.assertEqual(all_answers(live), all_answers(other))
            self.same(other.deeds(), stand)
            again = Live(7)
            for deed in told:
                again.do(deed)
            self.assertEqual(all_answers(again), all_answers(live))
            self.same(again.deeds(), told)

    def test_what_is_kept_and_made(self):
        chance = chance_of(923)
        found = {"forms": 0, "rounds": 0, "none": 0}

        def ask(live, model):
            names = model.regions()[0]
            self.same(live.kept(), model.kept())
            self.same(live.made(), model.made)
            found["forms"] += 0 < len(model.forms) < len(names)
            found["rounds"] += 0 < len(model.rounds) < len(names)
            found["none"] += not model.rounds
            for _ in range(chance.randrange(3) if names else 0):
                region = chance.randrange(len(names))
                kind = chance.randrange(5)
                if kind == 0:
                    live.whole_sum()
                    for name in model.lasts():
                        model.need_form(name)
                elif kind == 1:
                    live.region_form(region)
                    model.need_form(names[region])
                elif kind == 2:
                    live.surrounding(region)
                    model.need_round(names[region])
                elif kind == 3:
                    place = chance.randrange(len(model.state[0]))
                    live.facing(place)
                    model.need_round(names[place])
                elif model.web().ties:
                    tie = chance.choice(model.web().ties)
                    live.share_of(tie)
                    model.need_round(names[tie[0][0]])
                self.same(live.kept(), model.kept())
                self.same(live.made(), model.made)

        for number in range(30):
            run(chance, 7, 25, ask)
        self.assertGreater(min(found.values()), 20)

    def test_kept_by_hand(self):
        live = Live(7)
        two = Rule(7, [1, 0, 0, 1])
        for _ in range(3):
            live.add(ONE)
        end = Rule(7, [1, 0])
        live.draw((0, 0), (1, 0), [end, end])
        live.draw((1, 1), (2, 0), [two, end])
        self.same((live.whole_sum(), live.made(), live.kept()), (1, 5, ([0, 1, 2, 3, 4], [])))
        live.put(2, Rule(7, [3, 0]))
        self.same((live.made(), live.kept()), (5, ([0, 1, 3], [])))
        self.same((live.whole_sum(), live.made()), (3, 7))
        live.facing(2)
        self.same((live.made(), live.kept()), (9, ([0, 1, 2, 3, 4], [2, 4])))
        live.put(2, Rule(7, [4, 0]))
        self.same(live.kept(), ([0, 1, 3], [2, 4]))
        live.facing(2)
        self.same(live.made(), 9)
        live.undo()
        self.same(live.kept(), ([0, 1, 3], [2, 4]))
        live.put(0, Rule(7, [2, 0]))
        self.same(live.kept(), ([1], [4]))
        live.add(ONE)
        # What is kept stands for regions of the same places, whatever numbers these have now.
        self.same((live.whole_sum(), live.kept()), (6, ([0, 1, 2, 3, 4, 5], [])))
        live.undo()
        self.same(live.kept(), ([0, 1, 2, 3, 4], []))
        live.drop(((1, 1), (2, 0)), [end, ONE])
        self.same(live.kept(), ([0], []))
        self.same(live.course(), [((0, 0), (1, 0))])

    def test_what_is_refused_changes_nothing(self):
        chance = chance_of(924)
        for number in range(25):
            live, model, told = run(chance, 7, 18)
            live.whole_sum()
            all_answers(live)  # so that nothing is left to be made
            ahead = (live.kept(), live.made(), live.deeds(), all_answers(live))
            for thing in (lambda: live.put(99, ONE), lambda: live.add(Rule(7, [1, 2])), lambda: live.do(None),
                          lambda: live.draw((0, 0), (0, 0), [some_formed_rule(chance, 7, 1)]),
                          lambda: live.drop(None, None)):
                with self.assertRaises(BadLive):
                    thing()
            for place, rule in enumerate(live.web().rules):
                if rule.legs:
                    self.refuses(BadLive, "forms", live.put, place, unformed_rule(chance, 7, rule.legs))
            self.assertEqual((live.kept(), live.made(), live.deeds(), all_answers(live)), ahead)
            undone = len(model.undone)
            for _ in range(undone):
                live.redo()
            self.refuses(BadLive, "redo", live.redo)

    def test_draw_is_refused_exactly_if_not_flat(self):
        chance = chance_of(925)
        found = {True: 0, False: 0}
        for number in range(12):
            live, model, _ = run(chance, 7, 20)
            corners = [(p, k) for p in range(len(model.state[0])) for k in range(len(model.state[0][p]) + 1)]
            for one in corners:
                for other in corners:
                    flat = model.is_flat_with(one, other)
                    found[flat] += 1
                    rules = rules_for(chance, model, [one[0], other[0]], 1, some_even_rule)
                    if flat:
                        live.draw(one, other, rules)
                        self.assertTrue(is_flat(live.web()))
                        live.undo()
                    else:
                        self.refuses(BadLive, "flat", live.draw, one, other, rules)
                        self.refuses(BadLive, "flat", live.draw, one, other, None)
                    self.assertEqual(live.web(), model.web())
        self.assertGreater(min(found.values()), 100)
