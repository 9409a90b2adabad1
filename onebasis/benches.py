"""Workbenches: webs that are edited, with questions whose answers are told anew behind each deed."""

from onebasis.edits import SHAPES, edited, first_word, has_shape, is_edit
from onebasis.errors import BadBench, BadDeed, NotLet
from onebasis.questions import answered, is_question
from onebasis.webs import want_web

UNASKING = {"unask": ("number",)}


def is_bench_deed(thing):
    """Whether any value is a deed of a workbench."""
    word = first_word(thing)
    if word == "ask":
        return len(thing) == 2 and is_question(thing[1])
    return is_edit(thing) or has_shape(UNASKING.get(word), thing)


class Stand:
    """What a deed has led to: the web, the questions by their numbers, and how many were asked."""

    def __init__(self, deed, now, asked, many):
        self.deed = deed
        self.now = now
        self.asked = asked
        self.many = many


def stand_behind(stand, deed):
    """The stand that the deed leads to."""
    if not is_bench_deed(deed):
        raise BadDeed("a deed is wanted")
    if deed[0] in SHAPES:
        return Stand(deed, edited(stand.now, deed), stand.asked, stand.many)
    if deed[0] == "ask":
        return Stand(deed, stand.now, stand.asked + ((stand.many, deed[1]),), stand.many + 1)
    left = tuple([row for row in stand.asked if row[0] != deed[1]])
    if len(left) == len(stand.asked):
        raise NotLet("number")
    return Stand(deed, stand.now, left, stand.many)


def answers_at(stand):
    """The pairs of the number and the answer of each question that is asked."""
    return [(number, answered(stand.now, question)) for number, question in stand.asked]


def unlike_answers(ahead, behind):
    """The triples (number, answer ahead, answer behind) of the questions there with unlike answers."""
    told = {number: answer for number, answer in behind}
    return [(number, answer, told[number]) for number, answer in ahead if number in told and told[number] != answer]


class Bench:
    """A web, the deeds that were done to it, and those that were taken back."""

    def __init__(self, web):
        want_web(web)
        self.first = web
        self.now = web
        self.stands = [Stand(None, web, (), 0)]
        self.gone = []

    def __eq__(self, other):
        if not isinstance(other, Bench) or self.first != other.first:
            return False
        return self.deeds() == other.deeds() and self.undone() == other.undone()

    def do(self, deed):
        """Does a deed; what was undone is dropped."""
        self.stands.append(stand_behind(self.stands[-1], deed))
        self.gone = []
        self.now = self.stands[-1].now

    def undo(self):
        """Takes the last deed back."""
        if len(self.stands) == 1:
            raise NotLet("undo")
        self.gone.append(self.stands.pop())
        self.now = self.stands[-1].now

    def redo(self):
        """Does the deed again that was taken back last."""
        if not self.gone:
            raise NotLet("redo")
        self.stands.append(self.gone.pop())
        self.now = self.stands[-1].now

    def questions(self):
        """The pairs of the number and the question of what is asked, ascending."""
        return list(self.stands[-1].asked)

    def answers(self):
        """The pairs of the number and the answer of what is asked, ascending."""
        return answers_at(self.stands[-1])

    def deeds(self):
        """The present deeds."""
        return [stand.deed for stand in self.stands[1:]]

    def undone(self):
        """The deeds that were taken back, the one to be done again next first."""
        return [stand.deed for stand in self.gone[::-1]]

    def what_if(self, deed):
        """The triples (number, answer now, answer behind) of the answers that the deed would change."""
        behind = stand_behind(self.stands[-1], deed)
        return unlike_answers(self.answers(), answers_at(behind))


def want_bench(bench):
    """Refuses what is no Bench."""
    if not isinstance(bench, Bench):
        raise BadBench("a workbench is wanted")
