from formhelpers import heavy_bits, plain_rule_of, some_form, zero_form
from helpers import ODD_THINGS, Case, chance_of

from onebasis.errors import BadForm, BadNumber
from onebasis.forms import form_worth
from onebasis.formturns import flipped_form, mirrored_form, scaled_form, set_form_leg, turned_form
from onebasis.foundforms import form_of
from onebasis.normals import is_normal
from onebasis.rules import flipped, mirrored, scaled, set_leg, turned


class FormTurns(Case):
    def test_few_legs(self):
        chance = chance_of(240)
        for number in range(120):
            form = some_form(chance, (3, 7, 97)[number % 3], number % 6, chance.choice((0, 3, 5, 7)))
            if number % 20 == 0:
                form = zero_form(7, number % 6)
            rule = plain_rule_of(form)
            for many in range(9):
                self.assertEqual(turned_form(form, many), form_of(turned(rule, many)))
            self.assertEqual(mirrored_form(form), form_of(mirrored(rule)))
            for factor in (0, 1, 2):
                self.assertEqual(scaled_form(form, factor), form_of(scaled(rule, factor)))
            for leg in range(form.legs):
                self.assertEqual(flipped_form(form, leg), form_of(flipped(rule, leg)))
                for bit in (0, 1):
                    self.assertEqual(set_form_leg(form, leg, bit), form_of(set_leg(rule, leg, bit)))

    def test_many_legs(self):
        chance = chance_of(241)
        for legs, zeros in ((60, 0), (60, 4), (17, 3)):
            form = some_form(chance, 97, legs, zeros)
            many, leg, met = chance.randrange(1, legs), chance.randrange(legs), []
            calls = [turned_form(form, many), mirrored_form(form), flipped_form(form, leg), scaled_form(form, 5),
                     set_form_leg(form, leg, 0), set_form_leg(form, leg, 1)]
            self.assertTrue(all(is_normal(told) for told in calls))
            for _ in range(12):
                bits = heavy_bits(chance, form)
                worth = form_worth(form, bits)
                met.append(worth)
                self.assertEqual(form_worth(calls[0], bits[many:] + bits[:many]), worth)
                self.assertEqual(form_worth(calls[1], bits[::-1]), worth)
                self.assertEqual(form_worth(calls[2], bits[:leg] + (1 - bits[leg],) + bits[leg + 1:]), worth)
                self.assertEqual(form_worth(calls[3], bits), worth * 5 % 97)
                self.assertEqual(form_worth(calls[4 + bits[leg]], bits[:leg] + bits[leg + 1:]), worth)
            self.assertGreater(len(set(met)), 3)

    def test_turned_by_more_than_there_are(self):
        chance = chance_of(242)
        form = some_form(chance, 7, 5)
        for many in (0, 5, 7, 59, 60):
            self.assertEqual(turned_form(form, many), turned_form(form, many % 5))
        self.assertEqual(turned_form(zero_form(7, 0), 60), zero_form(7, 0))

    def test_refused(self):
        form = some_form(chance_of(243), 7, 3)
        for thing in ODD_THINGS:
            self.refuses(BadForm, None, turned_form, thing, None)
            self.refuses(BadForm, None, mirrored_form, thing)
            self.refuses(BadForm, None, flipped_form, thing, None)
            self.refuses(BadForm, None, scaled_form, thing, None)
            self.refuses(BadForm, None, set_form_leg, thing, None, None)
        for thing in ODD_THINGS:
            self.refuses(BadNumber, "many", turned_form, form, thing)
            self.refuses(BadNumber, "leg", flipped_form, form, thing)
            self.refuses(BadNumber, "number", scaled_form, form, thing)
            self.refuses(BadNumber, "leg", set_form_leg, form, thing, None)
            self.refuses(BadNumber, "bit", set_form_leg, form, 0, thing)
        self.refuses(BadNumber, "many", turned_form, form, 61)
        self.refuses(BadNumber, "number", scaled_form, form, 7)
        self.refuses(BadNumber, "leg", flipped_form, form, 3)
        self.refuses(BadNumber, "leg", set_form_leg, form, 3, None)
        self.refuses(BadNumber, "bit", set_form_leg, form, 2, 2)
        self.refuses(BadNumber, "leg", flipped_form, zero_form(7, 0), 0)

    def test_a_leg_that_is_forced(self):
        # All numbers of the other legs are 0, so that the leg with bit 1 leaves nothing.
        for form in (zero_form(7, 2), some_form(chance_of(244), 7, 4, 7)):
            told = [set_form_leg(form, 1, bit) for bit in (0, 1)]
            self.assertIn(zero_form(7, form.legs - 1), told)
            rule = plain_rule_of(form)
            self.assertEqual([plain_rule_of(x) for x in told], [set_leg(rule, 1, bit) for bit in (0, 1)])
