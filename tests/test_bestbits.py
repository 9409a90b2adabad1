from itertools import combinations, product

from formhelpers import plain_worth, some_form, some_skew, zero_form
from helpers import ODD_THINGS, Case, chance_of

from onebasis.bestbits import best_bits
from onebasis.errors import BadForm, BadNumber
from onebasis.forms import Form, form_worth
from onebasis.normals import rebased


def weight_of(weights, bits):
    return sum(weight for weight, bit in zip(weights, bits) if bit)


class BestBits(Case):
    def test_few_legs(self):
        chance = chance_of(280)
        for number in range(300):
            form = some_form(chance, (3, 7)[number % 2], number % 7, chance.choice((0, 3, 5, 6)))
            most = (0, 1, 2, 1000)[number % 4]
            weights = [chance.randint(-most, most) for _ in range(form.legs)]
            heavy = [bits for bits in product((0, 1), repeat=form.legs) if plain_worth(form, bits)]
            wanted = min(heavy, key=lambda bits: (-weight_of(weights, bits), bits))
            self.same(best_bits(form, weights), wanted)
            self.same(best_bits(form, tuple(weights)), wanted)

    def test_exactly_if_no_two_legs_make_it_greater(self):
        chance = chance_of(281)
        for number in range(60):
            form = some_form(chance, 3, 5, chance.choice((0, 3, 5)))
            weights = [chance.randint(-4, 4) for _ in range(5)]
            heavy = [bits for bits in product((0, 1), repeat=5) if plain_worth(form, bits)]
            most = max(weight_of(weights, bits) for bits in heavy)
            for bits in heavy:
                near = [x for x in heavy if sum(a != b for a, b in zip(x, bits)) == 2]
                best = not any(weight_of(weights, x) > weight_of(weights, bits) for x in near)
                self.assertIs(best, weight_of(weights, bits) == most)

    def test_sixty_legs(self):
        chance = chance_of(282)
        for zeros, most in ((0, 1000), (3, 2), (6, 1), (6, 0)):
            form = some_form(chance, 97, 60, zeros)
            weights = [chance.randint(-most, most) for _ in range(60)]
            bits = best_bits(form, weights)
            self.assertNotEqual(form_worth(form, bits), 0)
            table = rebased(form, bits).table
            for i, j in combinations(range(60), 2):
                if table[i][j]:
                    near = tuple(1 - bit if k in (i, j) else bit for k, bit in enumerate(bits))
                    here, there = weight_of(weights, bits), weight_of(weights, near)
                    self.assertTrue(there < here or there == here and bits < near)

    def test_edges(self):
        self.assertIsNone(best_bits(zero_form(7, 3), [1, 2, 3]))
        self.assertIsNone(best_bits(Form(7, 0, (1,), some_skew(chance_of(283), 7, 3)), [1, 2, 3]))
        self.same(best_bits(Form(7, 2, (), []), []), ())
        self.same(best_bits(Form(7, 2, (0,), [[0]]), [-1000]), (1,))
        table = [[0, 1, 1], [6, 0, 1], [6, 6, 0]]
        self.same(best_bits(Form(7, 1, (), table), [1000, -1000, 0]), (1, 0, 1))
        self.same(best_bits(Form(7, 1, (), table), [5, 5, 5]), (0, 1, 1))
        self.same(best_bits(Form(7, 1, (), table), [0, 0, 0]), (0, 0, 0))

    def test_refused(self):
        form = zero_form(7, 2)
        for thing in ODD_THINGS:
            self.refuses(BadForm, None, best_bits, thing, None)
        for thing in ODD_THINGS + [[1], [1, 2, 3], [1, True], [1, 1001], [-1001, 1], [1, 1.0], [1, None]]:
            self.refuses(BadNumber, "weights", best_bits, form, thing)
