from itertools import product

from formhelpers import heavy_bits, plain_worth, plainly_normal, some_form, some_skew, zero_form
from helpers import ODD_THINGS, Case, chance_of

from onebasis.errors import BadBits, BadForm
from onebasis.forms import Form, form_worth, rule_of
from onebasis.foundforms import form_of
from onebasis.normals import is_normal, normal, rebased


class Normals(Case):
    def test_few_legs(self):
        chance = chance_of(230)
        told = []
        for number in range(300):
            form = some_form(chance, (3, 7, 97)[number % 3], number % 6, chance.choice((0, 3, 5, 7)))
            worths = [plain_worth(form, bits) for bits in product((0, 1), repeat=form.legs)]
            found = normal(form)
            self.assertEqual([plain_worth(found, bits) for bits in product((0, 1), repeat=form.legs)], worths)
            self.assertTrue(plainly_normal(found))
            self.assertIs(is_normal(found), True)
            self.assertIs(is_normal(form), plainly_normal(form))
            self.assertIs(is_normal(form), form == found)
            free = all(form.table[i][j] == 0 for i in form.flips for j in range(i + 1, form.legs))
            self.assertIs(is_normal(form), free)
            self.assertEqual(found, form_of(rule_of(form)))
            told.append(free)
        self.assertGreater(min(told.count(True), told.count(False)), 40)

    def test_zeros(self):
        for form in (Form(7, 0, (0,), [[0, 0], [0, 0]]), Form(7, 0, (), [[0, 1], [6, 0]]), Form(7, 0, (0,), [[0]])):
            self.assertIs(is_normal(form), False)
            self.assertEqual(normal(form), zero_form(7, form.legs))
        for legs in (0, 1, 60):
            self.assertIs(is_normal(zero_form(7, legs)), True)
            self.assertEqual(normal(zero_form(7, legs)), zero_form(7, legs))

    def test_rebased(self):
        chance = chance_of(231)
        for number in range(60):
            form = some_form(chance, (3, 97)[number % 2], number % 6, chance.choice((0, 3, 5)))
            every = list(product((0, 1), repeat=form.legs))
            for bits in every:
                if plain_worth(form, bits):
                    found = rebased(form, bits)
                    self.assertEqual(found.flips, tuple(k for k, bit in enumerate(bits) if bit))
                    self.assertEqual([plain_worth(found, x) for x in every], [plain_worth(form, x) for x in every])
                    self.assertEqual(normal(found), normal(form))
                else:
                    self.refuses(BadForm, "base", rebased, form, bits)
            # Two forms have the same worths exactly if they are normally the same.
            other = some_form(chance, form.prime, form.legs, 6)
            same = [plain_worth(other, x) for x in every] == [plain_worth(form, x) for x in every]
            self.assertIs(normal(other) == normal(form), same)

    def test_sixty_legs(self):
        chance = chance_of(232)
        for zeros in (0, 5):
            form = some_form(chance, 97, 60, zeros)
            found = normal(form)
            self.assertTrue(all(found.table[i][j] == 0 for i in found.flips for j in range(i + 1, 60)))
            self.assertTrue(is_normal(found))
            self.assertNotEqual(found, form)
            met = []
            for _ in range(20):
                bits = heavy_bits(chance, form)
                worth = form_worth(form, bits)
                met.append(worth)
                self.assertEqual(form_worth(found, bits), worth)
                if worth:
                    other = rebased(form, bits)
                    self.assertEqual((other.number, sum(bits)), (worth, len(other.flips)))
                    self.assertEqual(normal(other), found)
            self.assertGreater(len(set(met)), 5)

    def test_refused(self):
        form = Form(3, 1, (), [[0, 1], [2, 0]])
        for thing in ODD_THINGS:
            for call in (normal, is_normal):
                self.refuses(BadForm, None, call, thing)
            self.refuses(BadForm, None, rebased, thing, None)
        for thing in (None, [0, 0], (0,), (0, 0, 0), (0, 2), (0, True), "00"):
            self.refuses(BadBits, None, rebased, form, thing)
            self.refuses(BadBits, None, rebased, Form(3, 0, (), form.table), thing)
        self.refuses(BadForm, "base", rebased, form, (0, 1))
        self.refuses(BadForm, "base", rebased, Form(3, 0, (), form.table), (0, 0))
        chance = chance_of(233)
        table = some_skew(chance, 3, 4)
        told = [list(row) for row in table]
        normal(Form(3, 1, (0, 1), table))
        self.assertEqual(table, told)
