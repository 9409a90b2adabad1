from itertools import product

from benchhelpers import EDITS, QUESTIONS, some_question
from formhelpers import some_formed_rule
from helpers import ODD_THINGS, Case, at, brute_sum, chance_of, some_flat_outer_web, some_rule, some_web
from test_channels import least_parting, rank
from test_limits import pairs_web

from onebasis.alike import all_bases
from onebasis.around import around, with_rule
from onebasis.bases import changed, other_side
from onebasis.channels import across
from onebasis.classes import classes
from onebasis.errors import BadQuestion, BadWeb
from onebasis.foundforms import has_form
from onebasis.questions import answered, is_question
from onebasis.rules import Rule, ones
from onebasis.webs import Web, is_flat

TWO = Web(5, [Rule(5, [1, 2, 3, 4]), Rule(5, [1, 1])], [((0, 0), (1, 0))], [(0, 1)])


def lacks(web, question):
    """Whether a place, bits or a leg of the question are not those of the web."""
    word, parts = question[0], question[1:]
    many = len(web.rules)
    if word == "sum":
        return len(parts[0]) != len(web.outer)
    if word == "around":
        return parts[0] >= many or len(parts[1]) != len(web.outer)
    if word == "free":
        return parts[0] >= many or len(parts[1]) != web.rules[parts[0]].legs
    if word in ("channels", "parting"):
        return parts[0] == parts[1] or max(parts[:2]) >= many or (word == "channels" and len(parts[2]) != len(web.outer))
    return word == "share" and all(parts[0] not in tie for tie in web.ties)


def plain_answer(web, question):
    """The answer of a question, by the words of point 86."""
    if lacks(web, question):
        return "lacks"
    word, parts = question[0], question[1:]
    if word in ("sum", "around", "free", "channels") and len(web.ties) + len(web.outer) > 12:
        return "many"
    if word == "sum":
        return at(Rule(web.prime, brute_sum(web)), parts[0])
    if word == "around":
        return around(web, *parts).table
    if word == "free":
        sums = []
        for number in range(web.prime):
            table = list(web.rules[parts[0]].table)
            table[int("0" + "".join(map(str, parts[1])), 2)] = number
            sums.append(brute_sum(with_rule(web, parts[0], Rule(web.prime, table))))
        return all(told == sums[0] for told in sums)
    if word == "channels":
        return rank(web.prime, across(web, *parts))
    if word == "parting":
        return len(least_parting(web, *parts))
    if word == "share":
        return plain_share(web, *parts)
    if word == "classes":
        return ",".join(classes(web.rules)) or "none"
    tie = ones(web.prime, 2, [1, 0, 1])
    for basis in all_bases(web.prime):
        if has_form(changed(tie, other_side(basis))) and all(has_form(changed(rule, basis)) for rule in web.rules):
            return tuple(number for row in basis.rows for number in row)
    return "none"


def plain_share(web, leg, bit):
    if not is_flat(web):
        return "not flat"
    if not all(has_form(rule) for rule in web.rules):
        return "no form"
    tie = [tie for tie in web.ties if leg in tie][0]
    return tuple(brute_sum(web, {tie: bit}))


class Questions(Case):
    def test_is_question(self):
        for question in QUESTIONS + [("sum", (1,) * 8), ("around", 10 ** 9, ()), ("parting", 0, 0), ("share", (10 ** 9, 0), 0)]:
            self.assertIs(is_question(question), True)
            self.assertIs(is_question(list(question)), False)
            self.assertIs(is_question(question + (0,)), False)
            self.assertIs(is_question(question[:-1]), False)
        for thing in ODD_THINGS + EDITS + [
                ("sum", [0]), ("sum", (0,) * 9), ("sum", (2,)), ("sum", (True,)), ("sum", None), ("around", -1, ()), ("Sum", ()),
                ("around", True, ()), ("around", 10 ** 9 + 1, ()), ("around", 0, [0]), ("around", 0.0, ()), ("free", (0,), 0),
                ("channels", 0, None, ()), ("parting", 0), ("parting", 0, -1), ("share", (0, 0), 2), ("share", (0, 0), True),
                ("share", [0, 0], 1), ("share", (0,), 1), ("share", (0, -1), 1), ("share", 0, 1), ("classes", ()), (None,),
                ([],), (("classes",),), "classes", ("ask", ("classes",))]:
            self.assertIs(is_question(thing), False, thing)

    def test_answers(self):
        chance = chance_of(860)
        met = {}
        for number in range(200):
            if number % 2:
                web = some_web(chance, (3, 5)[number % 4 // 2], chance.randrange(1, 5), chance.randrange(6), 3)
            else:
                web = some_flat_outer_web(chance, 3, chance.randrange(1, 4), chance.randrange(5), some_formed_rule)
            for _ in range(6):
                question = some_question(chance, web)
                told = answered(web, question)
                self.same(told, plain_answer(web, question))
                kind = told if told in ("lacks", "not flat", "no form", "none") else type(told).__name__
                met[question[0], kind] = met.get((question[0], kind), 0) + 1
        for pair in (("sum", "int"), ("sum", "lacks"), ("around", "tuple"), ("around", "lacks"), ("free", "bool"), ("free", "lacks"),
                     ("channels", "int"), ("channels", "lacks"), ("parting", "int"), ("parting", "lacks"), ("share", "tuple"),
                     ("share", "lacks"), ("share", "not flat"), ("share", "no form"), ("classes", "str"), ("classes", "none"),
                     ("basis", "tuple"), ("basis", "none")):
            self.assertGreater(met.get(pair, 0), 2, pair)

    def test_many(self):
        long = pairs_web(3, Rule(3, [1] * 256))
        for question in (("sum", ()), ("around", 0, ()), ("free", 0, (0,) * 8), ("channels", 0, 1, ())):
            self.assertEqual(answered(long, question), "many")
        for question in (("sum", (0,)), ("around", 60, ()), ("around", 0, (1,)), ("free", 0, (0,) * 7), ("free", 60, ()),
                         ("channels", 0, 0, ()), ("channels", 0, 60, ()), ("channels", 0, 1, (0,)), ("parting", 5, 5),
                         ("share", (0, 8), 0), ("share", (59, 0), 0)):
            self.assertEqual(answered(long, question), "lacks")
        self.same(answered(long, ("parting", 0, 1)), 8)
        self.same(answered(long, ("parting", 10 ** 9, 1)), "lacks")
        self.assertEqual(answered(long, ("share", (0, 0), 0)), "no form")
        self.same(answered(pairs_web(3, Rule(3, [1] + [0] * 255)), ("share", (0, 0), 0)), (1,))
        self.same(answered(long, ("classes",)), "affine,product,short")
        chance = chance_of(861)
        twelve = Web(3, [some_rule(chance, 3, 8)] * 2, [((0, k), (1, k)) for k in range(8)][:4],
                     [(p, k) for p in range(2) for k in range(4, 8)])
        self.assertEqual(answered(twelve, ("sum", (0,) * 8)), brute_sum(twelve)[0])

    def test_bases(self):
        chance = chance_of(865)
        met = {}
        for number in range(60):
            prime = (5, 7, 11)[number % 3]
            rules = [Rule(prime, [1, chance.randrange(1, prime)]) for _ in range(1 + number % 2)]
            web = Web(prime, rules, [], [(place, 0) for place in range(len(rules))])
            told = answered(web, ("basis",))
            self.same(told, plain_answer(web, ("basis",)))
            met[type(told)] = met.get(type(told), 0) + 1
        self.assertGreater(min(met[tuple], met[str]), 8)

    def test_examples(self):
        self.same(answered(TWO, ("sum", (0,))), 4)
        self.same(answered(TWO, ("sum", (1,))), 1)
        self.same(answered(TWO, ("around", 1, (1,))), (2, 4))
        self.same(answered(TWO, ("free", 0, (0, 0))), False)
        self.same(answered(Web(5, [], [], []), ("sum", ())), 1)
        self.same(answered(Web(5, [], [], []), ("classes",)), "affine,form,product,short")
        self.same(answered(Web(5, [], [], []), ("basis",)), tuple(
            [basis.rows[0] + basis.rows[1] for basis in all_bases(5) if has_form(changed(ones(5, 2, [1, 0, 1]), other_side(basis)))][0]))
        for bits in product((0, 1), repeat=2):
            self.assertEqual(answered(TWO, ("free", 0, bits)), plain_answer(TWO, ("free", 0, bits)))

    def test_refused(self):
        for thing in ODD_THINGS:
            self.refuses(BadWeb, None, answered, thing, None)
            self.refuses(BadQuestion, None, answered, TWO, thing)
        for thing in EDITS + [("sum", [0]), ["classes"], ("ask", ("classes",))]:
            self.refuses(BadQuestion, None, answered, TWO, thing)
