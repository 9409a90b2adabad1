from itertools import product

from formhelpers import heavy_bits, plain_worth, some_form, zero_form
from helpers import ODD_THINGS, Case, chance_of

from onebasis.errors import BadForm
from onebasis.forms import Form, form_worth
from onebasis.formsums import form_total, paired
from onebasis.formturns import set_form_leg


def total_by_setting(form, left):
    """The total of a form of many legs by setting its first legs to all bits, and going through what is left."""
    if form.legs <= left:
        return sum(form_worth(form, bits) for bits in product((0, 1), repeat=form.legs)) % form.prime
    return sum(total_by_setting(set_form_leg(form, 0, bit), left) for bit in (0, 1)) % form.prime


class FormSums(Case):
    def test_by_hand(self):
        form = Form(7, 1, (), [[0, 2, 0, 0], [5, 0, 0, 0], [0, 0, 0, 3], [0, 0, 4, 0]])
        self.same(paired(form, form), 1)
        self.same(form_total(form), 5)
        self.same(paired(Form(7, 3, (), []), Form(7, 4, (), [])), 5)
        self.same(form_total(zero_form(7, 60)), 0)

    def test_few_legs(self):
        chance = chance_of(260)
        met = set()
        for number in range(240):
            prime, zeros = (3, 7, 97)[number % 3], chance.choice((0, 3, 5, 7))
            form, other = [some_form(chance, prime, number % 7, zeros) for _ in range(2)]
            every = list(product((0, 1), repeat=form.legs))
            told = sum(plain_worth(form, bits) * plain_worth(other, bits) for bits in every) % prime
            self.same(paired(form, other), told)
            self.same(form_total(form), sum(plain_worth(form, bits) for bits in every) % prime)
            met.add(told)
        self.assertGreater(len(met), 10)

    def test_sixty_legs(self):
        chance = chance_of(261)
        for zeros in (0, 3, 6):
            form = some_form(chance, 97, 60, zeros)
            for _ in range(4):
                bits = heavy_bits(chance, form)
                lone = Form(97, 1, tuple(k for k, bit in enumerate(bits) if bit), zero_form(97, 60).table)
                self.assertEqual(paired(form, lone), form_worth(form, bits))
                self.assertEqual(paired(lone, form), form_worth(form, bits))
                self.assertEqual(form_total(lone), 1)
            other = some_form(chance, 97, 60, zeros)
            for leg in (0, 31, 59):
                halves = [[set_form_leg(x, leg, bit) for x in (form, other)] for bit in (0, 1)]
                self.assertEqual(paired(form, other), sum(paired(*pair) for pair in halves) % 97)
                self.assertEqual(form_total(form), sum(form_total(pair[0]) for pair in halves) % 97)

    def test_forms_of_twos(self):
        # Each two legs go by themselves, so that sums are products.
        chance = chance_of(262)
        table, more, wanted, total = [[0] * 60 for _ in range(60)], [[0] * 60 for _ in range(60)], 1, 1
        for k in range(0, 60, 2):
            x, y = chance.randrange(97), chance.randrange(97)
            table[k][k + 1], table[k + 1][k], more[k][k + 1], more[k + 1][k] = x, -x % 97, y, -y % 97
            wanted, total = wanted * (1 + x * y) % 97, total * (1 + x) % 97
        self.assertEqual(paired(Form(97, 5, (), table), Form(97, 7, (), more)), wanted * 35 % 97)
        self.assertEqual(form_total(Form(97, 5, (), table)), total * 5 % 97)
        self.assertEqual(paired(Form(97, 5, (), table), Form(97, 5, (3,), table)), 0)

    def test_totals_of_many_legs(self):
        chance = chance_of(263)
        for flips in ((), (0,), (4, 11)):
            form = some_form(chance, 97, 12)
            form = Form(97, 3, flips, form.table)
            self.assertEqual(form_total(form), total_by_setting(form, 6))

    def test_refused(self):
        form = some_form(chance_of(264), 7, 3)
        for thing in ODD_THINGS:
            self.refuses(BadForm, None, paired, thing, None)
            self.refuses(BadForm, None, paired, form, thing)
            self.refuses(BadForm, None, paired, thing, form)
            self.refuses(BadForm, None, form_total, thing)
        self.refuses(BadForm, "other", paired, form, zero_form(5, 3))
        self.refuses(BadForm, "other", paired, form, zero_form(7, 2))
