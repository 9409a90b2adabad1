"""Texts of the deeds of workbenches, and workbenches taken up from them."""

from onebasis.benches import UNASKING, Bench, is_bench_deed, want_bench
from onebasis.checks import is_list
from onebasis.edits import SHAPES
from onebasis.errors import BadDeed, BadDeedLine, NotLet
from onebasis.parttexts import part_text, parts_of_words
from onebasis.questions import QUESTIONS
from onebasis.webs import want_web

MOST_DIGITS = 10


def deed_line(deed):
    """The text of a deed."""
    if not is_bench_deed(deed):
        raise BadDeed("a deed is wanted")
    if deed[0] == "ask":
        return "ask " + question_line(deed[1])
    shape = UNASKING[deed[0]] if deed[0] in UNASKING else SHAPES[deed[0]]
    return shaped_line(shape, deed)


def question_line(question):
    """The words of a question as in the text of its deed."""
    return shaped_line(QUESTIONS[question[0]], question)


def shaped_line(shape, thing):
    """The text of a word and of parts of the kinds that the shape tells."""
    return " ".join([thing[0]] + [part_text(kind, part) for kind, part in zip(shape, thing[1:])])


def deed_of_line(text):
    """The deed of a text."""
    deed = told_deed(text.split(" ")) if isinstance(text, str) else None
    if not is_bench_deed(deed):
        raise BadDeedLine(None)
    return deed


def told_deed(words):
    """What the words of a text tell, a deed or not."""
    if words[0] == "ask" and len(words) > 1:
        return ("ask", told_parts(QUESTIONS.get(words[1]), words[1:]))
    return told_parts(SHAPES.get(words[0], UNASKING.get(words[0])), words)


def told_parts(kinds, words):
    """The tuple of the first word and of the parts of these kinds that the others tell; None if they are none."""
    parts = None if kinds is None else parts_of_words(kinds, words[1:], MOST_DIGITS)
    return None if parts is None else tuple(words[:1] + parts)


def journal(bench):
    """The texts of the present deeds."""
    want_bench(bench)
    return [deed_line(deed) for deed in bench.deeds()]


def taken_up(web, lines):
    """The workbench that did the deeds of all these texts."""
    want_web(web)
    if not is_list(lines):
        raise BadDeedLine(None)
    bench = Bench(web)
    for number, line in enumerate(lines):
        try:
            bench.do(deed_of_line(line))
        except (BadDeedLine, NotLet):
            raise BadDeedLine(number) from None
    return bench
