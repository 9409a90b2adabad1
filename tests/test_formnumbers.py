from itertools import product

from formhelpers import some_form, some_skew, zero_form
from helpers import ODD_THINGS, Case, chance_of

from onebasis.errors import BadForm, BadNumber
from onebasis.forms import Form
from onebasis.formnumbers import form_at, form_number, how_many_forms
from onebasis.foundforms import form_of, has_form
from onebasis.normals import is_normal, normal
from onebasis.rules import Rule


def sequence_of(form):
    """What forms of one prime and so many legs are numbered by."""
    if form.number == 0:
        return ()
    bits = tuple(int(k in form.flips) for k in range(form.legs))
    free = [(i, j) for i in range(form.legs) if i not in form.flips for j in range(i + 1, form.legs)]
    return (bits, form.number, tuple(form.table[i][j] for i, j in free))


class FormNumbers(Case):
    def test_by_hand(self):
        form = Form(7, 1, (), [[0, 2, 0, 0], [5, 0, 0, 0], [0, 0, 0, 3], [0, 0, 4, 0]])
        self.same(form_number(form), 33618)
        self.same(how_many_forms(7, 4), 1651201)
        self.assertEqual(form_at(7, 4, 33618), form)
        self.assertEqual(form_at(7, 4, 0), zero_form(7, 4))

    def test_all_rules_of_few_legs(self):
        for prime, legs in ((3, 0), (3, 1), (3, 2), (3, 3), (5, 0), (5, 1), (5, 2), (7, 1), (97, 0), (97, 1)):
            rules = [Rule(prime, table) for table in product(range(prime), repeat=1 << legs)]
            formed = [form_of(rule) for rule in rules if has_form(rule)]
            self.assertEqual(how_many_forms(prime, legs), len(formed))
            self.assertEqual([form_at(prime, legs, k) for k in range(len(formed))], sorted(formed, key=sequence_of))
            self.assertEqual(sorted(form_number(form) for form in formed), list(range(len(formed))))

    def test_there_and_back(self):
        chance = chance_of(270)
        for prime, legs in ((3, 4), (3, 5), (5, 3), (97, 60), (3, 60), (7, 33)):
            many = how_many_forms(prime, legs)
            wanted = prime - 1
            for k in range(legs):
                wanted *= prime ** k + 1
            self.same(many, wanted + 1)
            numbers = [0, 1, many - 1, many // 2] + [chance.randrange(many) for _ in range(20)]
            told = {}
            for number in sorted(numbers):
                told[number] = form_at(prime, legs, number)
                self.assertTrue(is_normal(told[number]))
                self.same(form_number(told[number]), number)
            rows = [sequence_of(told[number]) for number in sorted(numbers)]
            self.assertEqual(rows, sorted(rows))
            for bound in (-1, many, True, None, 1.0, "0"):
                self.refuses(BadNumber, "number", form_at, prime, legs, bound)

    def test_forms_that_are_not_normal(self):
        chance = chance_of(271)
        for legs in (3, 5, 60):
            form = some_form(chance, 7, legs)
            self.assertEqual(form_at(7, legs, form_number(form)), normal(form))
        self.same(form_number(Form(7, 0, (0,), some_skew(chance, 7, 3))), 0)

    def test_refused(self):
        for thing in ODD_THINGS + [2, 9, 101]:
            self.refuses(BadForm, "prime", how_many_forms, thing, None)
            self.refuses(BadForm, "prime", form_at, thing, None, None)
        for thing in ODD_THINGS + [61]:
            self.refuses(BadNumber, "legs", how_many_forms, 3, thing)
            self.refuses(BadNumber, "legs", form_at, 3, thing, None)
            if thing != 61:
                self.refuses(BadForm, None, form_number, thing)
