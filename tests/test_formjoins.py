from formhelpers import heavy_bits, plain_rule_of, some_form, zero_form
from helpers import ODD_THINGS, Case, chance_of

from onebasis.errors import BadForm, BadNumber, TooMany
from onebasis.forms import form_worth, rule_of
from onebasis.formjoins import beside_forms, closed_form, joined_forms
from onebasis.foundforms import form_of, has_form
from onebasis.normals import is_normal
from onebasis.rules import Rule, beside, closed, joined


class FormJoins(Case):
    def test_by_hand(self):
        table = [0] * 16
        table[0], table[12], table[3], table[15] = 1, 2, 3, 6
        told = closed_form(form_of(Rule(7, table)), 1)
        self.assertEqual(rule_of(told), Rule(7, [1, 0, 0, 6]))

    def test_few_legs(self):
        chance = chance_of(250)
        for number in range(200):
            prime, zeros = (3, 7, 97)[number % 3], chance.choice((0, 3, 5, 7))
            form, other = some_form(chance, prime, number % 5, zeros), some_form(chance, prime, chance.randrange(4), zeros)
            if number % 23 == 0:
                other = zero_form(prime, other.legs)
            rule, further = plain_rule_of(form), plain_rule_of(other)
            self.assertEqual(beside_forms(form, other), form_of(beside(rule, further)))
            for leg in range(form.legs):
                if form.legs > 1:
                    self.assertEqual(closed_form(form, leg), form_of(closed(rule, leg, (leg + 1) % form.legs)))
                for place in range(other.legs):
                    self.assertEqual(joined_forms(form, leg, other, place), form_of(joined(rule, leg, further, place)))

    def test_closed_over_legs_that_are_no_neighbours(self):
        chance = chance_of(251)
        found = [has_form(closed(plain_rule_of(some_form(chance, 7, 6)), 0, 3)) for _ in range(30)]
        self.assertIn(False, found)

    def test_sixty_legs(self):
        chance = chance_of(252)
        for zeros in (0, 4):
            form, other = some_form(chance, 97, 31, zeros), some_form(chance, 97, 29, zeros)
            told = beside_forms(form, other)
            wide = some_form(chance, 97, 60, zeros)
            shut = {leg: closed_form(wide, leg) for leg in (0, 33, 58, 59)}
            further = some_form(chance, 97, 31, zeros)
            tied = joined_forms(form, 7, further, 20)
            self.assertEqual((told.legs, shut[0].legs, tied.legs), (60, 58, 60))
            self.assertTrue(all(is_normal(x) for x in [told, tied] + list(shut.values())))
            met = set()
            for _ in range(8):
                one, two = heavy_bits(chance, form), heavy_bits(chance, other)
                self.assertEqual(form_worth(told, one + two), form_worth(form, one) * form_worth(other, two) % 97)
                for leg, found in shut.items():
                    bits = heavy_bits(chance, found)
                    ends = [(bit,) + bits[:58] + (bit,) if leg == 59 else bits[:leg] + (bit, bit) + bits[leg:]
                            for bit in (0, 1)]
                    worth = sum(form_worth(wide, x) for x in ends) % 97
                    self.assertEqual(form_worth(found, bits), worth)
                    met.add(worth)
                bits = heavy_bits(chance, tied)
                one, two = bits[:30], bits[30:]
                worth = 0
                for bit in (0, 1):
                    first = one[30 - 7:] + (bit,) + one[:30 - 7]
                    second = two[30 - 20:] + (bit,) + two[:30 - 20]
                    worth += form_worth(form, first) * form_worth(further, second)
                self.assertEqual(form_worth(tied, bits), worth % 97)
                met.add(worth % 97)
            self.assertGreater(len(met), 5)

    def test_refused(self):
        chance = chance_of(253)
        form, other = some_form(chance, 7, 3), some_form(chance, 5, 2)
        for thing in ODD_THINGS:
            self.refuses(BadForm, None, beside_forms, thing, None)
            self.refuses(BadForm, None, beside_forms, form, thing)
            self.refuses(BadForm, None, beside_forms, thing, form)
            self.refuses(BadForm, None, joined_forms, thing, 0, form, 0)
            self.refuses(BadForm, None, closed_form, thing, None)
            self.refuses(BadForm, None, joined_forms, thing, None, None, None)
            self.refuses(BadForm, None, joined_forms, form, None, thing, None)
            self.refuses(BadNumber, "leg", closed_form, form, thing)
            self.refuses(BadNumber, "leg", joined_forms, form, thing, other, None)
            self.refuses(BadNumber, "place", joined_forms, form, 0, form, thing)
        self.refuses(BadForm, "other", beside_forms, form, other)
        self.refuses(BadForm, "other", joined_forms, form, 2, other, None)
        self.refuses(BadNumber, "leg", closed_form, form, 3)
        self.refuses(BadNumber, "leg", closed_form, some_form(chance, 7, 1), 0)
        self.refuses(BadNumber, "leg", closed_form, zero_form(7, 0), 0)
        self.refuses(BadNumber, "leg", joined_forms, form, 3, other, None)
        self.refuses(BadNumber, "place", joined_forms, form, 0, form, 3)
        wide = zero_form(7, 60)
        self.refuses(TooMany, 60, beside_forms, wide, zero_form(7, 1))
        self.assertEqual(beside_forms(wide, zero_form(7, 0)), wide)
        self.refuses(TooMany, 60, joined_forms, wide, 0, form, 0)
        self.refuses(BadNumber, "place", joined_forms, wide, 0, wide, 60)
        self.assertEqual(joined_forms(wide, 0, zero_form(7, 2), 0), wide)
