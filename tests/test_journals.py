from benchhelpers import EDITS, QUESTIONS, some_deed
from helpers import ODD_THINGS, Case, chance_of, some_web

from onebasis.benches import Bench
from onebasis.errors import BadBench, BadDeed, BadDeedLine, BadWeb, NotLet
from onebasis.journals import deed_line, deed_of_line, journal, taken_up
from onebasis.rules import Rule
from onebasis.webs import Web

LINES = {
    ("rule", 0, (1, 2, 0, 1)): "rule 0 1,2,0,1",
    ("add", (1,)): "add 1",
    ("tie", (0, 0), (1, 12)): "tie 0.0 1.12",
    ("cut", (0, 1)): "cut 0.1",
    ("swap", 10 ** 9): "swap 1000000000",
    ("turn", 1, 3): "turn 1 3",
    ("flip", (3, 0)): "flip 3.0",
    ("merge", (1, 0)): "merge 1.0",
    ("ask", ("sum", ())): "ask sum -",
    ("ask", ("sum", (0, 1, 1))): "ask sum 011",
    ("ask", ("around", 2, (1,))): "ask around 2 1",
    ("ask", ("free", 0, ())): "ask free 0 -",
    ("ask", ("channels", 0, 1, (0, 0))): "ask channels 0 1 00",
    ("ask", ("parting", 10, 1)): "ask parting 10 1",
    ("ask", ("share", (0, 3), 1)): "ask share 0.3 1",
    ("ask", ("classes",)): "ask classes",
    ("ask", ("basis",)): "ask basis",
    ("unask", 7): "unask 7",
}
NO_LINES = ["", " ", "rule", "rule 0", "rule 0 ", "rule 0 1,2,3", "rule 0 97", "rule 0 1, 2", "rule 00 1", "rule 0 01", "rule -1 1",
            "rule 0 1,", "rule 0 ,1", "add", "add 1 1", "add  1", " add 1", "add 1 ", "add 1\n", "\nadd 1", "Add 1", "tie 0.0", "tie 0.0 1",
            "tie 0.0 1.", "tie 0.0 .1", "tie 0.0 1.1.1", "tie 0.0-1.1", "cut 0", "cut 0.0 1.1", "swap", "swap 1.0", "swap 1000000001",
            "swap 9999999999", "swap 10000000000", "swap +1", "swap 1_0", "turn 1", "turn 1 1 1", "ask", "ask ", "ask sum", "ask sum ",
            "ask sum 2", "ask sum 0,1", "ask sum --", "ask sum 000000000", "ask sum 0 1", "ask around 0", "ask around 0 ", "ask around - 0",
            "ask parting 0", "ask share 0.0 2", "ask share 0.0 -", "ask share 0 1", "ask classes ", "ask  classes", "ask classes 1",
            "ask add 1", "ask ask classes", "unask", "unask -", "unask 01", "undo", "redo", "classes", "sum -", "if add 1", "swap \u0663",
            "swap " + "1" * 5000, "add " + ",".join(["1"] * 512), "ask sum -0", "ask sum 0-"]


class Journals(Case):
    def test_texts_of_deeds(self):
        for deed, line in LINES.items():
            self.same(deed_line(deed), line)
            self.same(deed_of_line(line), deed)
        table = tuple(range(97)) + (0,) * 159
        self.same(deed_line(("add", table)), "add " + ",".join(str(number) for number in table))
        self.same(deed_of_line("add " + ",".join(["96"] * 256)), ("add", (96,) * 256))
        self.same(deed_of_line("ask sum 01010101"), ("ask", ("sum", (0, 1) * 4)))
        for deed in EDITS + [("ask", question) for question in QUESTIONS]:
            self.same(deed_of_line(deed_line(deed)), deed)

    def test_no_texts(self):
        for thing in NO_LINES + ODD_THINGS[:3] + [5, b"add 1", ["add 1"], ("add", (1,)), ("add 1",)]:
            self.refuses(BadDeedLine, None, deed_of_line, thing)
        for thing in ODD_THINGS + QUESTIONS + [("undo",), ["add", (1,)], "add 1"]:
            self.refuses(BadDeed, None, deed_line, thing)

    def test_there_and_back(self):
        chance = chance_of(870)
        for _ in range(30):
            web = some_web(chance, 3, chance.randrange(4), chance.randrange(4), 3)
            bench = Bench(web)
            lines = []
            for _ in range(15):
                deed = some_deed(chance, bench)
                try:
                    bench.do(deed)
                except NotLet:
                    self.refuses(BadDeedLine, len(lines), taken_up, web, lines + [deed_line(deed), "add 1"])
                    continue
                lines.append(deed_line(deed))
            self.same(journal(bench), lines)
            self.assertEqual(taken_up(web, lines), bench)
            self.assertEqual(taken_up(web, tuple(lines)), bench)
            for _ in range(min(2, len(lines))):
                bench.undo()
                lines.pop()
            self.same(journal(bench), lines)
            self.assertEqual(taken_up(web, lines).now, bench.now)
            at = chance.randrange(len(lines) + 1)
            for wrong in ("undo", "add 1 1", None, 5, "unask 100", ("add", (1,))):
                self.refuses(BadDeedLine, at, taken_up, web, lines[:at] + [wrong] + lines[at:])
            self.refuses(BadDeedLine, at, taken_up, web, lines[:at] + ["unask 99", "x"])

    def test_edges(self):
        web = Web(3, [], [], [])
        self.assertEqual(taken_up(web, []), Bench(web))
        self.assertEqual(taken_up(web, ()), Bench(web))
        self.same(journal(Bench(web)), [])

    def test_refused(self):
        web = Web(3, [Rule(3, [1])], [], [])
        for thing in ODD_THINGS:
            self.refuses(BadWeb, None, taken_up, thing, None)
            self.refuses(BadBench, None, journal, thing)
        self.refuses(BadBench, None, journal, web)
        for thing in (None, 5, "add 1", {}, {0: "add 1"}, b"add 1", object()):
            self.refuses(BadDeedLine, None, taken_up, web, thing)
