from classhelpers import some_affine
from helpers import ODD_THINGS, Case, chance_of

from onebasis.affine import Affine, affine_rule, affine_worth
from onebasis.affineforms import affine_beside, affine_closed, affine_set
from onebasis.errors import BadAffine, BadNumber, TooMany
from onebasis.foundaffine import affine_form
from onebasis.rules import Rule, beside, closed, set_leg


class AffineForms(Case):
    def test_against_rules(self):
        chance = chance_of(630)
        met = {"beside": 0, "closed": 0, "set": 0}
        for number in range(250):
            prime = (3, 5, 7, 13, 29)[number % 5]
            form, other = some_affine(chance, prime, chance.randrange(5)), some_affine(chance, prime, chance.randrange(5))
            wanted = beside(affine_rule(form), affine_rule(other))
            self.assertEqual(affine_beside(form, other), affine_form(wanted))
            met["beside"] += any(wanted.table)
            form = some_affine(chance, prime, chance.randrange(2, 8), 0.02)
            one, two = chance.sample(range(form.legs), 2)
            wanted = closed(affine_rule(form), one, two)
            self.assertEqual(affine_closed(form, one, two), affine_form(wanted))
            met["closed"] += any(wanted.table)
            bit = chance.randrange(2)
            wanted = set_leg(affine_rule(form), one, bit)
            self.assertEqual(affine_set(form, one, bit), affine_form(wanted))
            met["set"] += any(wanted.table)
        self.assertGreater(min(met.values()), 90)

    def test_two_legs(self):
        # Both legs hang on ways that are paired, with each power: what is left is summed over one bit alone.
        for prime, order in ((5, 4), (7, 2)):
            for first in range(order):
                for second in range(order):
                    for pairs in ([], [(0, 1)]):
                        form = Affine(prime, 2, 1, (0, 0), [(1, 0), (0, 1)], [first, second], pairs)
                        wanted = affine_form(closed(affine_rule(form), 0, 1))
                        self.assertEqual(affine_closed(form, 0, 1), wanted)

    def test_several_legs_in_two_sequences(self):
        chance = chance_of(631)
        met = 0
        for number in range(18):
            prime = (5, 7, 97)[number % 3]
            form = some_affine(chance, prime, 60, 0)
            if number % 2:
                ways = [tuple(1 if leg == k else 0 for leg in range(60)) for k in range(60)]
                form = Affine(prime, 60, 1, (0,) * 60, ways, [chance.randrange(2) for _ in ways],
                              [(j, k) for j in range(60) for k in range(j + 1, 60) if chance.randrange(10) == 0])
            legs = list(range(60))
            pairs = [(legs.pop(chance.randrange(len(legs))), legs.pop(chance.randrange(len(legs)))) for _ in range(26)]
            told = []
            for _ in range(2):
                left, fresh = list(range(60)), form
                chance.shuffle(pairs)
                for one, other in pairs:
                    fresh = affine_closed(fresh, left.index(one), left.index(other))
                    left = [leg for leg in left if leg not in (one, other)]
                told.append(fresh)
            self.assertEqual(told[0].legs, 8)
            self.assertEqual(*told)
            met += told[0].number != 0
        self.assertGreater(met, 4)

    def test_sixty_legs(self):
        chance = chance_of(632)
        for prime in (5, 7):
            form, other = some_affine(chance, prime, 35, 0), some_affine(chance, prime, 25, 0)
            both = affine_beside(form, other)
            bits = form.start + other.start
            self.assertEqual(affine_worth(both, bits), form.number * other.number % prime)
            for k, way in enumerate(form.ways):
                fresh = tuple(x ^ y for x, y in zip(form.start, way)) + other.start
                self.assertEqual(affine_worth(both, fresh),
                                 affine_worth(form, fresh[:35]) * affine_worth(other, fresh[35:]) % prime)
            left = both
            for leg in reversed(range(8, 60)):
                left = affine_set(left, leg, bits[leg])
            wanted = form
            for leg in reversed(range(8, 35)):
                wanted = affine_set(wanted, leg, form.start[leg])
            self.assertEqual(left.number, wanted.number * other.number % prime)
            self.assertEqual((left.start, left.ways, left.powers, left.pairs),
                             (wanted.start, wanted.ways, wanted.powers, wanted.pairs))
            self.refuses(TooMany, 60, affine_beside, both, Affine(prime, 1, 1, (0,), [], [], []))
            self.assertEqual(affine_beside(both, Affine(prime, 0, 1, (), [], [], [])), both)
            self.assertEqual(affine_beside(Affine(prime, 0, 0, (), [], [], []), both),
                             Affine(prime, 60, 0, (0,) * 60, [], [], []))

    def test_refused(self):
        form, other = Affine(5, 2, 1, (0, 0), [], [], []), Affine(7, 60, 1, (0,) * 60, [], [], [])
        for thing in ODD_THINGS + [Rule(5, [1] * 4)]:
            self.refuses(BadAffine, None, affine_beside, thing, None)
            self.refuses(BadAffine, None, affine_beside, thing, form)
            self.refuses(BadAffine, None, affine_beside, form, thing)
            self.refuses(BadAffine, None, affine_closed, thing, None, None)
            self.refuses(BadAffine, None, affine_set, thing, None, None)
        self.refuses(BadAffine, "other", affine_beside, form, other)
        for thing in (None, True, 1.0, "0", -1, 2, (0,)):
            self.refuses(BadNumber, "leg", affine_closed, form, thing, thing)
            self.refuses(BadNumber, "other", affine_closed, form, 0, thing)
            self.refuses(BadNumber, "leg", affine_set, form, thing, thing)
            self.refuses(BadNumber, "bit", affine_set, form, 0, thing)
        for leg in (0, 1):
            self.refuses(BadNumber, "other", affine_closed, form, leg, leg)
