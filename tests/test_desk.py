from benchhelpers import some_deed
from helpers import ODD_THINGS, Case, chance_of, some_web
from test_benches import LOOP, state
from test_journals import NO_LINES

from onebasis.benches import Bench
from onebasis.desk import Desk
from onebasis.errors import BadWeb, NotLet
from onebasis.journals import deed_line, journal
from onebasis.webs import Web


def told_answer(answer):
    """An answer as it stands in lines, by the words of point 87."""
    if answer is True or answer is False:
        return "yes" if answer else "no"
    return ",".join(map(str, answer)) if isinstance(answer, tuple) else str(answer)


def changes(ahead, behind):
    ahead, behind = dict(ahead), dict(behind)
    return tuple(f"{number} {told_answer(ahead[number])} > {told_answer(behind[number])}" for number in sorted(ahead)
                 if number in behind and ahead[number] != behind[number]) or ("nothing",)


class Desks(Case):
    def test_each_line(self):
        desk = Desk(LOOP)
        self.assertIsInstance(desk.bench, Bench)
        self.assertEqual(desk.bench, Bench(LOOP))
        rows = (
            ("questions", ("nothing",)), ("answers", ("nothing",)), ("journal", ("nothing",)), ("size", ("1 1 0",)),
            ("undo", ("cannot undo",)), ("redo", ("cannot redo",)), ("ask sum -", ("nothing",)),
            ("ask around 0 -", ("nothing",)), ("ask free 0 01", ("nothing",)), ("ask classes", ("nothing",)),
            ("ask share 0.1 1", ("nothing",)), ("ask sum 0", ("nothing",)),
            ("answers", ("0 5", "1 1,0,0,1", "2 yes", "3 short", "4 no form", "5 lacks")),
            ("questions", ("0 sum -", "1 around 0 -", "2 free 0 01", "3 classes", "4 share 0.1 1", "5 sum 0")),
            ("if rule 0 5,6,0,1", ("0 5 > 6",)), ("if rule 0 1,0,0,4", ("3 short > form,product,short", "4 no form > 4")),
            ("rule 0 5,6,0,1", ("0 5 > 6",)), ("undo", ("0 6 > 5",)), ("redo", ("0 5 > 6",)), ("redo", ("cannot redo",)),
            ("if cut 0.0", ("0 6 > lacks", "1 1,0,0,1 > lacks", "2 yes > no", "4 no form > lacks", "5 lacks > lacks")),
            ("unask 5", ("nothing",)), ("unask 5", ("cannot number",)), ("if unask 5", ("cannot number",)),
            ("journal", ("ask sum -", "ask around 0 -", "ask free 0 01", "ask classes", "ask share 0.1 1", "ask sum 0",
                         "rule 0 5,6,0,1", "unask 5")),
            ("turn 9 0", ("cannot place",)), ("if turn 0 9", ("cannot many",)), ("rule 0 1", ("cannot table",)),
            ("cut 0.2", ("cannot leg",)), ("add 1,2,3,4", ("0 6 > lacks", "1 1,0,0,1 > lacks")), ("size", ("2 1 2",)),
        )
        for line, wanted in rows:
            if line == "if cut 0.0":
                wanted = wanted[:-1]
            self.same(desk.say(line), wanted)

    def test_lines_that_are_none(self):
        desk = Desk(LOOP)
        desk.say("ask sum -")
        desk.say("flip 0.0")
        desk.say("undo")
        before = state(desk.bench)
        lines = [line for line in NO_LINES if line not in ("undo", "redo", "if add 1")]
        for line in lines + ODD_THINGS + [5, b"size", ["size"], ("size",), "Size", "size ", " size", "sizes", "if", "if ", "if undo",
                                          "if redo", "if size", "if if add 1", "if questions", "if  add 1", "undo ", "answers\n", "journal 1"]:
            self.same(desk.say(line), ("what",))
            self.same(desk.say("if " + line if isinstance(line, str) else line), ("what",))
        self.same(state(desk.bench), before)
        self.same(desk.say("redo"), ("nothing",))

    def test_against_a_bench(self):
        chance = chance_of(871)
        met = {"changes": 0, "refused": 0, "undo": 0, "redo": 0}
        for _ in range(50):
            web = some_web(chance, 3, chance.randrange(1, 4), chance.randrange(4), 3)
            desk, bench = Desk(web), Bench(web)
            for _ in range(25):
                ahead = bench.answers()
                word = chance.choice(("undo", "redo", "deed", "deed", "deed", "deed"))
                deed = some_deed(chance, bench)
                line = deed_line(deed) if word == "deed" else word
                try:
                    wanted = (bench.what_if(deed),) if word == "deed" else None
                    if wanted:
                        told = tuple(f"{n} {told_answer(a)} > {told_answer(b)}" for n, a, b in wanted[0]) or ("nothing",)
                        self.same(desk.say("if " + line), told)
                    getattr(bench, word if word != "deed" else "do")(*([deed] if word == "deed" else []))
                    wanted = changes(ahead, bench.answers())
                    met["changes"] += wanted != ("nothing",)
                    met[word] = met.get(word, 0) + 1
                except NotLet as refused:
                    wanted = (f"cannot {refused.why}",)
                    met["refused"] += 1
                    if word == "deed":
                        self.same(desk.say("if " + line), wanted)
                self.same(desk.say(line), wanted)
                self.assertEqual(desk.bench, bench)
                self.assertEqual(desk.bench.now, bench.now)
                self.same(desk.say("answers"), tuple(f"{n} {told_answer(a)}" for n, a in bench.answers()) or ("nothing",))
                self.same(desk.say("journal"), tuple(journal(bench)) or ("nothing",))
                self.same(desk.say("questions"), tuple(f"{n} {deed_line(('ask', question))[4:]}"
                                                       for n, question in bench.questions()) or ("nothing",))
                self.same(desk.say("size"), (f"{len(bench.now.rules)} {len(bench.now.ties)} {len(bench.now.outer)}",))
        self.assertGreater(min(met.values()), 15)

    def test_refused(self):
        for thing in ODD_THINGS:
            self.refuses(BadWeb, None, Desk, thing)
        self.assertEqual(Desk(web=Web(3, [], [], [])).say(line="size"), ("0 0 0",))
