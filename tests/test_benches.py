from benchhelpers import EDITS, QUESTIONS, some_deed, some_question
from helpers import ODD_THINGS, Case, chance_of, some_web
from test_limits import pairs_web

from onebasis.benches import Bench, is_bench_deed
from onebasis.edits import edited
from onebasis.errors import BadDeed, BadWeb, BasisError, NotLet
from onebasis.questions import answered
from onebasis.rules import Rule
from onebasis.webs import Web, is_flat

LOOP = Web(7, [Rule(7, [1, 2, 3, 4])], [((0, 0), (0, 1))], [])


def state(bench):
    """All that a bench tells."""
    return (bench.first, bench.now, bench.deeds(), bench.undone(), bench.questions(), bench.answers())


class PlainBench:
    """A workbench that does all its present deeds anew for each thing that is asked."""

    def __init__(self, web):
        self.first = web
        self.done, self.gone = [], []

    def told(self, deeds):
        web, asked, many = self.first, {}, 0
        for deed in deeds:
            if deed[0] == "ask":
                asked[many] = deed[1]
                many += 1
            elif deed[0] == "unask":
                if deed[1] not in asked:
                    raise NotLet("number")
                del asked[deed[1]]
            else:
                web = edited(web, deed)
        return web, sorted(asked.items())

    def state(self):
        web, asked = self.told(self.done)
        answers = [(number, answered(web, question)) for number, question in asked]
        return (self.first, web, self.done, self.gone, asked, answers)

    def do(self, deed):
        self.told(self.done + [deed])
        self.done, self.gone = self.done + [deed], []

    def what_if(self, deed):
        ahead = dict(self.state()[5])
        web, asked = self.told(self.done + [deed])
        behind = {number: answered(web, question) for number, question in asked}
        return [(number, ahead[number], behind[number]) for number in sorted(ahead)
                if number in behind and ahead[number] != behind[number]]


class Benches(Case):
    def test_is_bench_deed(self):
        deeds = EDITS + [("ask", question) for question in QUESTIONS] + [("unask", 0), ("unask", 10 ** 9)]
        for deed in deeds:
            self.assertIs(is_bench_deed(deed), True)
            self.assertIs(is_bench_deed(list(deed)), False)
            self.assertIs(is_bench_deed(deed + (0,)), False)
            self.assertIs(is_bench_deed(deed[:-1]), False)
        for thing in ODD_THINGS + QUESTIONS + [
                ("ask",), ("ask", None), ("ask", ["classes"]), ("ask", ("sum", [0])), ("ask", ("add", (1,))), ("unask", -1),
                ("unask", True), ("unask", 10 ** 9 + 1), ("unask", 0.0), ("unask", (0,)), ("undo",), ("redo",), (None, ("classes",)),
                ("Ask", ("classes",)), ("ask", ("classes",), ("classes",)), "ask", ("add", [1]), ([], 0)]:
            self.assertIs(is_bench_deed(thing), False, thing)

    def test_against_a_new_bench(self):
        chance = chance_of(862)
        met = {"undo": 0, "redo": 0, "refused": 0, "what": 0, "unask": 0}
        for number in range(50):
            web = some_web(chance, 3, chance.randrange(4), chance.randrange(4), 3)
            bench, plain = Bench(web), PlainBench(web)
            for _ in range(25):
                kind = chance.randrange(10)
                before = state(bench)
                if kind == 0 and plain.done:
                    bench.undo()
                    plain.done, plain.gone = plain.done[:-1], [plain.done[-1]] + plain.gone
                    met["undo"] += 1
                elif kind == 1 and plain.gone:
                    bench.redo()
                    plain.done, plain.gone = plain.done + plain.gone[:1], plain.gone[1:]
                    met["redo"] += 1
                elif kind > 1:
                    deed = some_deed(chance, bench)
                    try:
                        wanted = plain.what_if(deed)
                    except NotLet as refused:
                        for call in (bench.do, bench.what_if):
                            self.refuses(NotLet, refused.why, call, deed)
                        self.same(state(bench), before)
                        met["refused"] += 1
                        continue
                    self.same(bench.what_if(deed), wanted)
                    self.same(state(bench), before)
                    met["what"] += len(wanted)
                    met["unask"] += deed[0] == "unask"
                    self.assertIsNone(bench.do(deed))
                    plain.do(deed)
                self.same(state(bench), plain.state())
            fresh = Bench(web)
            for deed in bench.deeds():
                fresh.do(deed)
            self.same(state(fresh)[:3] + state(fresh)[4:], state(bench)[:3] + state(bench)[4:])
            self.assertEqual(fresh == bench, not bench.undone())
        self.assertGreater(min(met.values()), 10)

    def test_quiet_edits(self):
        chance = chance_of(863)
        met = 0
        for _ in range(60):
            web = some_web(chance, 5, chance.randrange(1, 5), chance.randrange(1, 8), 3)
            bench = Bench(web)
            bench.do(("ask", ("sum", tuple(chance.randrange(2) for _ in web.outer))))
            for deed in [("turn", chance.randrange(len(web.rules)), chance.randrange(9))] + [
                    (word, chance.choice(chance.choice(web.ties))) for word in ("flip", "merge") if web.ties]:
                try:
                    self.assertEqual(bench.what_if(deed), [])
                    unlike = deed[0] != "merge" or len({tie[0][0] - tie[1][0] for tie in web.ties if deed[1] in tie} - {0})
                    bench.do(deed)
                    if unlike:
                        self.assertIs(is_flat(bench.now), is_flat(web))
                    met += 1
                    bench.undo()
                except NotLet as refused:
                    self.assertEqual(refused.why, "many")
        self.assertGreater(met, 100)
        # A merge may leave twelve ties.
        web = Web(3, [Rule(3, [1] * 128)] * 3 + [Rule(3, [1] * 32)], [((0, k), (1, k)) for k in range(4)] + [
            ((0, k), (2, k)) for k in range(4, 7)] + [((1, k), (2, k - 4)) for k in range(4, 7)] + [
                ((2, 3), (3, 0)), ((3, 1), (3, 2)), ((3, 3), (3, 4))], [])
        self.assertEqual(len(web.ties), 13)
        bench = Bench(web)
        bench.do(("ask", ("sum", ())))
        self.assertEqual(bench.answers(), [(0, "many")])
        told = bench.what_if(("merge", (3, 1)))
        self.assertEqual((told[0][:2], len(told)), ((0, "many"), 1))
        self.assertIs(type(told[0][2]), int)

    def test_numbers_of_questions(self):
        bench = Bench(LOOP)
        bench.do(("ask", ("sum", ())))
        bench.do(("ask", ("classes",)))
        bench.do(("unask", 0))
        self.same(bench.questions(), [(1, ("classes",))])
        bench.do(("ask", ("basis",)))
        self.same(bench.questions(), [(1, ("classes",)), (2, ("basis",))])
        self.refuses(NotLet, "number", bench.do, ("unask", 0))
        bench.undo()
        bench.do(("ask", ("sum", ())))
        self.same(bench.questions(), [(1, ("classes",)), (2, ("sum", ()))])
        self.same(bench.answers(), [(1, "short"), (2, 5)])
        self.same(bench.what_if(("rule", 0, (5, 6, 0, 1))), [(2, 5, 6)])
        self.same(bench.what_if(("unask", 2)), [])
        self.same(bench.what_if(("ask", ("classes",))), [])
        self.refuses(NotLet, "redo", bench.redo)
        self.same(bench.undone(), [])
        for _ in range(4):
            bench.undo()
        self.same(bench.undone(), [("ask", ("sum", ())), ("unask", 0), ("ask", ("classes",)), ("ask", ("sum", ()))][::-1])
        self.refuses(NotLet, "undo", bench.undo)
        bench.redo()
        self.same(bench.deeds(), [("ask", ("sum", ()))])

    def test_equal(self):
        one, other = Bench(LOOP), Bench(Web(7, [Rule(7, [1, 2, 3, 4])], [((0, 1), (0, 0))], []))
        self.assertEqual(one, other)
        one.do(("flip", (0, 0)))
        self.assertNotEqual(one, other)
        other.do(("flip", (0, 0)))
        self.assertEqual(one, other)
        other.undo()
        self.assertNotEqual(one, other)
        one.undo()
        self.assertEqual(one, other)
        self.assertNotEqual(one, Bench(LOOP))
        # One web now, by other deeds.
        one, other = Bench(LOOP), Bench(LOOP)
        one.do(("turn", 0, 2))
        self.assertEqual(one.now, other.now)
        self.assertNotEqual(one, other)
        self.assertNotEqual(Bench(LOOP), Bench(Web(7, [], [], [])))
        self.assertNotEqual(Bench(LOOP), LOOP)
        self.assertNotEqual(Bench(LOOP), None)

    def test_lists_are_its_own(self):
        bench = Bench(LOOP)
        bench.do(("ask", ("sum", ())))
        bench.do(("flip", (0, 0)))
        bench.undo()
        before = state(bench)
        for call in (bench.questions, bench.answers, bench.deeds, bench.undone):
            self.assertIs(type(call()), list)
            call().clear()
        self.same(state(bench), before)

    def test_refused(self):
        for thing in ODD_THINGS:
            self.refuses(BadWeb, None, Bench, thing)
        bench = Bench(LOOP)
        bench.do(("ask", ("sum", ())))
        bench.undo()
        before = state(bench)
        for call in (bench.do, bench.what_if):
            for thing in ODD_THINGS + QUESTIONS + [("undo",), ["add", (1,)], ("ask", ("add", (1,)))]:
                self.refuses(BadDeed, None, call, thing)
            for deed, why in ((("rule", 1, (1,)), "place"), (("rule", 0, (1,)), "table"), (("rule", 0, (1, 2, 3, 7)), "table"),
                              (("add", (7,)), "table"), (("tie", (0, 0), (0, 1)), "leg"), (("cut", (0, 2)), "leg"),
                              (("swap", 0), "leg"), (("turn", 0, 9), "many"), (("turn", 1, 0), "place"), (("unask", 0), "number")):
                self.refuses(NotLet, why, call, deed)
        self.same(state(bench), before)

    def test_many_places(self):
        chance = chance_of(864)
        bench = Bench(pairs_web(3, Rule(3, [1] * 256)))
        for _ in range(30):
            bench.do(("ask", some_question(chance, bench.now)))
        answers = bench.answers()
        self.assertEqual([number for number, _ in answers], list(range(30)))
        self.assertIn("many", [answer for _, answer in answers])
        self.refuses(NotLet, "many", bench.do, ("add", (1,)))
        self.assertTrue(issubclass(NotLet, BasisError))
