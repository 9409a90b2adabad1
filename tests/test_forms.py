from itertools import product

from formhelpers import plain_rule_of, plain_worth, some_form, some_skew
from helpers import ODD_THINGS, Case, chance_of

from onebasis.errors import BadBits, BadForm, TooMany
from onebasis.forms import Form, form_worth, rule_of
from onebasis.rules import Rule

SKEW = [[0, 1], [2, 0]]


class Forms(Case):
    def test_attributes(self):
        table = [[0, 1], [2, 0]]
        form = Form(3, 2, (0,), table)
        table[0][1] = 0
        self.same((form.prime, form.legs, form.number, form.flips, form.table), (3, 2, 2, (0,), ((0, 1), (2, 0))))
        self.assertEqual(form, Form(3, 2, (0,), ((0, 1), (2, 0))))
        for other in (Form(3, 1, (0,), SKEW), Form(3, 2, (1,), SKEW), Form(3, 2, (0,), [[0, 0], [0, 0]])):
            self.assertNotEqual(form, other)
        self.assertNotEqual(Form(3, 1, (), []), Form(5, 1, (), []))
        self.assertEqual(Form(97, 1, (), [[0] * 60] * 60).legs, 60)
        for thing in ODD_THINGS:
            self.assertFalse(form == thing)

    def test_refused(self):
        for thing in ODD_THINGS + [2, 9, 99]:
            self.refuses(BadForm, "prime", Form, thing, None, None, None)
        for thing in (None, 5, [[1]], [[0, 1], [1, 0]], [[0], [0]], [[0, True], [2, 0]], [[0] * 61] * 61):
            self.refuses(BadForm, "table", Form, 3, None, None, thing)
        for thing in (None, 3, -1, True, 1.0, "1"):
            self.refuses(BadForm, "number", Form, 3, thing, None, SKEW)
        for thing in (None, [], [0], (2,), (-1,), (1, 0), (0, 0), (True,), (0, 1.0), 0):
            self.refuses(BadForm, "flips", Form, 3, 1, thing, SKEW)

    def test_worths(self):
        chance = chance_of(212)
        for prime in (3, 97):
            for legs in range(7):
                form = some_form(chance, prime, legs)
                for bits in product((0, 1), repeat=legs):
                    self.same(form_worth(form, bits), plain_worth(form, bits))
                self.assertEqual(rule_of(form), plain_rule_of(form))

    def test_by_hand(self):
        table = [[0, 2, 0, 0], [5, 0, 0, 0], [0, 0, 0, 3], [0, 0, 4, 0]]
        rule = rule_of(Form(7, 1, (), table))
        self.assertEqual({k: x for k, x in enumerate(rule.table) if x}, {0: 1, 12: 2, 3: 3, 15: 6})
        self.assertEqual(rule_of(Form(7, 3, (), [])), Rule(7, [3]))
        self.assertEqual(rule_of(Form(7, 3, (0,), [[0]])), Rule(7, [0, 3]))

    def test_many_legs(self):
        chance = chance_of(213)
        form = some_form(chance, 97, 60)
        self.assertEqual(form_worth(form, tuple(int(k in form.flips) for k in range(60))), form.number)
        pair = tuple(int((k in form.flips) != (k in (7, 33))) for k in range(60))
        self.assertEqual(form_worth(form, pair), form.number * form.table[7][33] % 97)
        eight = some_form(chance, 5, 8)
        told = rule_of(eight)
        for k in (0, 1, 100, 255):
            bits = tuple(k >> (7 - j) & 1 for j in range(8))
            self.assertEqual(told.table[k], plain_worth(eight, bits))
        self.refuses(TooMany, 8, rule_of, Form(3, 1, (), some_skew(chance, 3, 9)))

    def test_functions_refused(self):
        form = Form(3, 1, (), SKEW)
        for thing in ODD_THINGS:
            self.refuses(BadForm, None, form_worth, thing, None)
            self.refuses(BadForm, None, rule_of, thing)
        for thing in (None, [0, 0], (0,), (0, 0, 0), (0, 2), (0, True), "00"):
            self.refuses(BadBits, None, form_worth, form, thing)
