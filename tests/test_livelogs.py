from formhelpers import some_even_rule
from helpers import ODD_THINGS, Case, chance_of, grid_web
from test_lives import all_answers, run

from onebasis.courses import course_of
from onebasis.drawings import live_of
from onebasis.errors import BadLive, BadLog
from onebasis.livelogs import log_of, recovered
from onebasis.lives import Live
from onebasis.rules import Rule

ROWS = ["live 7", "add 2", "add 3", "draw 0.0 1.0 2,0;3,0", "put 1 0,5"]
MORE = ["undo", "redo", "undo", "undo", "redo", "drop 0.0-1.0 4;5", "draw 0.0 0.0 1,0,0,1"]


def text_of(rows):
    return "".join(row + "\n" for row in rows)


def plain_row(deed):
    """The row of a deed, written out word by word."""
    if deed[0] in ("undo", "redo"):
        return deed[0]
    last = deed[-1] if deed[0] in ("draw", "drop") else (deed[-1],)
    tables = ";".join(",".join(map(str, table)) for table in last)
    if deed[0] == "add":
        return f"add {tables}"
    if deed[0] == "put":
        return f"put {deed[1]} {tables}"
    one, other = deed[1:3] if deed[0] == "draw" else deed[1]
    between = " " if deed[0] == "draw" else "-"
    return f"{deed[0]} {one[0]}.{one[1]}{between}{other[0]}.{other[1]} {tables}"


class LiveLogs(Case):
    def test_by_hand(self):
        live = Live(7)
        self.same(log_of(live), "live 7\n")
        live.add(Rule(7, [2]))
        live.add(Rule(7, [3]))
        live.draw((0, 0), (1, 0), [Rule(7, [2, 0]), Rule(7, [3, 0])])
        live.put(1, Rule(7, [0, 5]))
        self.same(log_of(live), text_of(ROWS))
        for deed in (live.undo, live.redo, live.undo, live.undo, live.redo):
            deed()
        live.drop(((0, 0), (1, 0)), [Rule(7, [4]), Rule(7, [5])])
        live.draw((0, 0), (0, 0), [Rule(7, [1, 0, 0, 1])])
        self.same(log_of(live), text_of(ROWS + MORE))
        self.same(recovered(text_of(ROWS + MORE)).deeds(), live.deeds())

    def test_there_and_back(self):
        chance = chance_of(972)
        for number in range(12):
            logs = []
            live = run(chance, (3, 97)[number % 2], 16, lambda live, model: logs.append(log_of(live)))[0]
            text = log_of(live)
            self.assertEqual(text, f"live {live.web().prime}\n" + text_of(plain_row(deed) for deed in live.deeds()))
            self.assertTrue(all(text.startswith(log) for log in logs))
            back = recovered(text)
            self.assertIs(type(back), Live)
            self.same(back.deeds(), live.deeds())
            self.assertEqual(log_of(back), text)
            self.assertEqual(all_answers(back), all_answers(live))

    def test_cut_at_every_sign(self):
        chance = chance_of(973)
        for number in range(3):
            live = run(chance, 7, 12)[0]
            text = log_of(live)
            for at in range(len(text) + 1):
                whole = text[:at].count("\n")
                if whole == 0:
                    self.refuses(BadLog, 0, recovered, text[:at])
                else:
                    self.same(recovered(text[:at]).deeds(), live.deeds()[:whole - 1])
        web = grid_web(chance, 97, 3, 5, 0, some_even_rule)
        text = log_of(live_of(web, course_of(web)))
        self.assertEqual(recovered(text + "\u00e9 whatever \t stands here").web(), web)

    def test_wrong_rows(self):
        good = ROWS + MORE
        for at, row in enumerate(good):
            if row in ("live 7", "undo", "redo"):
                continue
            wrongs = ["", " ", row + " ", " " + row, row.upper(), row.replace(" ", "  "), row + "\r", row + "\t", row[:-1],
                      row.replace(" ", "\t"), row + ",1", row + ";1", row + ".0", row.replace("0", "00"),
                      row.replace("0", "\u0660"), row.replace("1", "01"), row.replace(".", ","), row.replace("-", " "),
                      row.replace("0", "1000"), row.replace(",", ", "), row.replace("0", "-0"), row.replace("0", "+0"),
                      row.replace("0", "0_0"), row.replace(";", ","), row.replace("add", "append"), "whole_sum", row + "x"]
            for wrong in wrongs:
                if wrong != row:
                    self.refuses(BadLog, at, recovered, text_of(good[:at] + [wrong] + good[at + 1:]))
        for wrong in ("undo ", "undo 0", " undo", "undone", "UNDO", "und"):
            self.refuses(BadLog, 5, recovered, text_of(good[:5] + [wrong]))
        for wrong in ("live", "live ", "live 7 ", " live 7", "live  7", "live 07", "live 4", "live 101", "live 9", "live x",
                      "live 1007", "live -7", "live 7.0", "Live 7", "add 2", "", "live \u0667", "live 7\r"):
            self.refuses(BadLog, 0, recovered, text_of([wrong] + good[1:]))
            self.refuses(BadLog, 0, recovered, wrong + "\n")

    def test_refused_deeds(self):
        for rows, wrong in ((1, "undo"), (1, "redo"), (1, "put 0 1"), (1, "add 1,2"), (1, "add 7"), (1, "add 1,2,3"),
                            (3, "draw 0.0 2.0 1,0;1,0"), (3, "draw 0.1 1.0 2,0;3,0"), (3, "draw 0.0 1.0 2,0;3,5"),
                            (3, "draw 0.0 1.0 2,0"), (3, "drop 0.0-1.0 2;3"), (4, "drop 1.0-0.0 3;2"), (5, "redo"),
                            (5, "drop 0.0-1.0 2"), (4, "put 1 0,5,0,5"), (4, "put 999 0,5"), (4, "put 1 0,7")):
            self.refuses(BadLog, rows, recovered, text_of(ROWS[:rows] + [wrong]))
            self.refuses(BadLog, rows, recovered, text_of(ROWS[:rows] + [wrong] + ROWS[rows:]))
            self.same(log_of(recovered(text_of(ROWS[:rows]) + wrong)), text_of(ROWS[:rows]))
        self.refuses(BadLog, 61, recovered, text_of(["live 3"] + ["add 1"] * 61))

    def test_refused(self):
        for thing in ODD_THINGS:
            self.refuses(BadLive, None, log_of, thing)
            if not isinstance(thing, str):
                self.refuses(BadLog, None, recovered, thing)
        for thing in ("", "live 7", "1", "x\r", "live 7\r", "\u2028"):
            self.refuses(BadLog, 0, recovered, thing)
        self.refuses(BadLog, 0, recovered, "\n")
        self.refuses(BadLog, 1, recovered, "live 7\n\n")
