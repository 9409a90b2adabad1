"""Desks: workbenches that are told lines, and answer in lines."""

from onebasis.benches import Bench, unlike_answers
from onebasis.errors import BadDeedLine, NotLet
from onebasis.journals import deed_of_line, journal, question_line

IF = "if "


class Desk:
    """A new workbench of a web, which is told line by line what to do."""

    def __init__(self, web):
        self.bench = Bench(web)

    def say(self, line):
        """The answer to any line."""
        if not isinstance(line, str):
            return ("what",)
        try:
            return tuple(lines_of(self.bench, line)) or ("nothing",)
        except BadDeedLine:
            return ("what",)
        except NotLet as refused:
            return ("cannot " + refused.why,)


def lines_of(bench, line):
    """The lines that answer a line."""
    if line == "questions":
        return [f"{number} {question_line(question)}" for number, question in bench.questions()]
    if line == "answers":
        return [f"{number} {answer_text(answer)}" for number, answer in bench.answers()]
    if line == "journal":
        return journal(bench)
    if line == "size":
        return [f"{len(bench.now.rules)} {len(bench.now.ties)} {len(bench.now.outer)}"]
    if line.startswith(IF):
        return change_lines(bench.what_if(deed_of_line(line[len(IF):])))
    ahead = bench.answers()
    if line == "undo":
        bench.undo()
    elif line == "redo":
        bench.redo()
    else:
        bench.do(deed_of_line(line))
    return change_lines(unlike_answers(ahead, bench.answers()))


def change_lines(changes):
    """For each question of which the answer changes the line that tells both."""
    return [f"{number} {answer_text(one)} > {answer_text(other)}" for number, one, other in changes]


def answer_text(answer):
    """An answer as it stands in lines."""
    if isinstance(answer, bool):
        return "yes" if answer else "no"
    if isinstance(answer, tuple):
        return ",".join([str(number) for number in answer])
    return str(answer)
